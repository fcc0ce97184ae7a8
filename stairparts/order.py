"""The order of the partings of one whole: above and below, and the ways down."""

from itertools import zip_longest

from stairparts.errors import NoFit
from stairparts.partings import check_parting, is_number, is_parting


def lies_above(one, other):
    """Tell whether one lies above the other."""
    return lacking_count(one, other) is None


def lacking_count(one, other):
    """Tell the least count of which the greatest parts of one come to less; None if there is none."""
    _check_pair(one, other)
    lead = 0
    for place, gap in enumerate(_gaps(one, other)):
        lead += gap
        if lead < 0:
            return place + 1
    return None


def let_down(parting, first, second):
    """Tell the parting with a box let down from the part at place first to the one at place second."""
    check_parting(parting)
    if not _are_places(parting, first, second):
        raise NoFit("from this place no box can be let down to that one")
    parts = [*parting, 0]
    parts[first] -= 1
    parts[second] += 1
    if parts[-1] == 0:
        parts.pop()
    if not is_parting(parts):
        raise NoFit("a part would be greater than the one ahead")
    return parts


def way_down(one, other):
    """Tell the partings from one down to the other, a box let down in each; None if there is no way."""
    if lacking_count(one, other) is not None:
        return None
    way = [list(one)]
    while way[-1] != other:
        way.append(_nearer(way[-1], other))
    return way


def _check_pair(one, other):
    """Refuse what are not two partings of one whole."""
    check_parting(one)
    check_parting(other)
    if sum(one) != sum(other):
        raise NoFit("these are partings of unlike wholes")


def _gaps(one, other):
    """Tell by how much each part of one is greater than that of the other, noughts behind the last part."""
    return [part - facing for part, facing in zip_longest(one, other, fillvalue=0)]


def _are_places(parting, first, second):
    """Tell whether first is the place of a part, and second a later one or that behind the last."""
    return is_number(first) and is_number(second) and 0 <= first < second <= len(parting)


def _nearer(parting, goal):
    """Tell the parting with a box let down, so that it is nearer to the goal and still lies above it."""
    gaps = _gaps(parting, goal)
    # Up to the first part that is too small, the parting is ahead of the goal, and between the last
    # part that is too great and that one both are alike: so the box fits at both ends.
    second = min([place for place, gap in enumerate(gaps) if gap < 0])
    first = max([place for place, gap in enumerate(gaps[:second]) if gap > 0])
    return let_down(parting, first, second)
