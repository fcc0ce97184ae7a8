"""Odd partings, unlike ones, and those that are their own turn."""

from stairparts.errors import NoFit
from stairparts.partings import check_parting, turned


def unlike_of(parting):
    """Tell the unlike parting that is made of an odd one."""
    check_parting(parting)
    _check_odd(parting)
    parts = [part * power for part in sorted(set(parting)) for power in _powers_in(parting.count(part))]
    return sorted(parts, reverse=True)


def odd_of(parting):
    """Tell the odd parting of which an unlike one is made."""
    check_parting(parting)
    _check_unlike(parting)
    parts = []
    for part in parting:
        power = _greatest_power_within(part)
        parts.extend([part // power] * power)
    return sorted(parts, reverse=True)


def bends_of(parting):
    """Tell the bends of a parting that is its own turn."""
    check_parting(parting)
    if turned(parting) != parting:
        raise NoFit("this parting is not its own turn")
    # A row and the column of its place are alike here, and share the box on the slanting line.
    return [2 * (part - place) - 1 for place, part in enumerate(parting) if part > place]


def unbent(parting):
    """Tell the parting that is its own turn and has the parts of this one as its bends."""
    check_parting(parting)
    _check_odd(parting)
    _check_unlike(parting)
    rows = [place + (bend + 1) // 2 for place, bend in enumerate(parting)]
    # Beneath these rows no row reaches the slanting line: there they are as the columns behind it.
    return rows + turned(rows)[len(rows):]


def _check_odd(parting):
    """Refuse a parting that has an even part."""
    if any([part % 2 == 0 for part in parting]):
        raise NoFit("this parting has an even part")


def _check_unlike(parting):
    """Refuse a parting that has a part twice."""
    if len(set(parting)) < len(parting):
        raise NoFit("this parting has a part twice")


def _powers_in(many):
    """Tell the unlike powers of two that come to so many."""
    powers = []
    power = 1
    rest = many
    while rest > 0:
        if rest % 2 == 1:
            powers.append(power)
        rest = rest // 2
        power = power * 2
    return powers


def _greatest_power_within(part):
    """Tell the greatest power of two of which the part is a multiple."""
    power = 1
    while part % (power * 2) == 0:
        power = power * 2
    return power
