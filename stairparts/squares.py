"""The square of a parting, and what lies beside it and beneath."""

from stairparts.errors import NoFit
from stairparts.partings import GREATEST_WHOLE, check_number, check_parting


def square_of(parting):
    """Tell the greatest number of which the parting has so many parts no less."""
    check_parting(parting)
    return len([part for place, part in enumerate(parting) if part > place])


def cut_square(parting):
    """Tell the square's number, the parting beside it and the one beneath."""
    number = square_of(parting)
    beside = [part - number for part in parting[:number] if part > number]
    beneath = parting[number:]
    return number, beside, beneath


def put_square(beside, beneath, number):
    """Tell the parting that has this square, and these partings beside it and beneath."""
    check_parting(beside)
    check_parting(beneath)
    check_number(number)
    if len(beside) > number or max(beneath, default=0) > number:
        raise NoFit("the square is too small for the partings")
    # A number of very many digits is not multiplied: that could last long.
    if number > GREATEST_WHOLE or number * number + sum(beside) + sum(beneath) > GREATEST_WHOLE:
        raise NoFit("the whole would be too great")
    noughts = [0] * (number - len(beside))
    return [number + part for part in beside + noughts] + beneath
