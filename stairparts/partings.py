"""Partings: what they are, and how they are turned."""

from stairparts.errors import NoNumber, NoParting

GREATEST_WHOLE = 200


def is_number(thing):
    """Tell whether thing is a whole number; True and False are none."""
    return isinstance(thing, int) and not isinstance(thing, bool)


def check_number(thing):
    """Refuse what is no whole number from 0 on."""
    # The message does not show the thing: a number of very many digits cannot be written out.
    if not is_number(thing) or thing < 0:
        raise NoNumber("this is no number from 0 on")


def is_parting(thing):
    """Tell whether thing, which may be anything, is a parting."""
    if not isinstance(thing, list):
        return False
    whole = 0
    ahead = GREATEST_WHOLE
    for part in thing:
        if not is_number(part) or part < 1 or part > ahead:
            return False
        ahead = part
        whole += part
        # A list may be far longer than any parting: it is not read to its end then.
        if whole > GREATEST_WHOLE:
            return False
    return True


def check_parting(thing):
    """Refuse what is no parting."""
    # As with numbers, the message does not show the thing.
    if not is_parting(thing):
        raise NoParting("this is no parting")


def turned(parting):
    """Tell the parting whose parts are the columns of the stair, from the left."""
    check_parting(parting)
    return [_column_height(parting, column) for column in range(max(parting, default=0))]


def _column_height(parting, column):
    """Tell how many rows of the stair reach the column, counted from 0."""
    return len([part for part in parting if part > column])
