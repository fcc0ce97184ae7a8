"""How many partings there are, and their numbers in order."""

from stairparts.errors import NoNumber
from stairparts.partings import GREATEST_WHOLE, check_number, check_parting


def how_many(whole, most=None):
    """Tell how many partings of the whole there are with no part greater than most."""
    _check_whole(whole)
    greatest = whole
    if most is not None:
        check_number(most)
        greatest = min(most, whole)
    return _count_rows(whole, greatest)[greatest][whole]


def number_of(parting):
    """Tell the number of the parting among those of its whole."""
    check_parting(parting)
    rest = sum(parting)
    rows = _count_rows(rest, max(parting, default=0))
    number = 0
    for part in parting:
        # Of those that begin alike, just the ones that go on with a lesser part stand ahead.
        number += rows[part - 1][rest]
        rest -= part
    return number


def parting_of(whole, number):
    """Tell the parting of the whole that has this number."""
    _check_whole(whole)
    check_number(number)
    rows = _count_rows(whole, whole)
    if number >= rows[whole][whole]:
        raise NoNumber("no parting of the whole has this number")
    parting = []
    rest = whole
    ahead = number
    while rest > 0:
        part = _first_part(rows, rest, ahead)
        parting.append(part)
        ahead -= rows[part - 1][rest]
        rest -= part
    return parting


def _check_whole(thing):
    """Refuse what is no number from 0 to the greatest whole."""
    check_number(thing)
    if thing > GREATEST_WHOLE:
        raise NoNumber("this whole is too great")


def _count_rows(whole, greatest):
    """Tell a row for each most from 0 to the greatest: how many partings with no greater part
    each number from 0 to the whole has."""
    rows = [[1] + [0] * whole]
    for most in range(1, greatest + 1):
        row = list(rows[most - 1])
        for total in range(most, whole + 1):
            # Those that begin with a part of this most are the ones of what is left then.
            row[total] += row[total - most]
        rows.append(row)
    return rows


def _first_part(rows, whole, number):
    """Tell the first part of the parting of the whole that has this number."""
    part = 1
    while rows[part][whole] <= number:
        part += 1
    return part
