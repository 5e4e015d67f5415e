"""What is asked of a question that is laid."""

from nearstretches.callnumbers import ALIKE, AT, BEST, ROW, SHOWS, WORTH
from nearstretches.nearness import NOT_LAID
from nearstretches.stretches import first_from, width

NOT_A_STRETCH = -7
WORTH_OF_ONE_PLACE = 5040


def counted(stretches):
    """How many there are, then of each its begin and its end."""
    numbers = [len(stretches)]
    for stretch in stretches:
        numbers.extend(stretch)
    return numbers


def first_counted(stretches, place):
    found = first_from(stretches, place)
    return counted([] if found is None else [found])


def worth_of(stretches):
    return sum([WORTH_OF_ONE_PLACE // width(stretch) for stretch in stretches])


def narrowest(stretches, most):
    # Stretches come in order, and sorting leaves as narrow ones as they came.
    return sorted(stretches, key=width)[:most]


def some_fits(stretches, begin, end):
    return any([begin <= stretch[0] and stretch[1] <= end for stretch in stretches])


def shown(state, number, stretch):
    if stretch not in state.stretches_of(number):
        return [NOT_A_STRETCH]
    places = state.places_that_make(number, stretch)
    return [len(places)] + places


def compared(stretches, others):
    if others is None:
        return [NOT_LAID]
    return [1 if stretches == others else 0]


def asked(state, call, numbers):
    """What is answered of a call from row on, by its number and the numbers behind it."""
    stretches = state.stretches_of(numbers[0])
    if stretches is None:
        return [NOT_LAID]
    if call == ROW:
        return counted(stretches)
    if call == AT:
        return first_counted(stretches, numbers[1])
    if call == WORTH:
        return [worth_of(stretches)]
    if call == SHOWS:
        return shown(state, numbers[0], (numbers[1], numbers[2]))
    if call == BEST:
        return counted(narrowest(stretches, numbers[1]))
    if call == ALIKE:
        return compared(stretches, state.stretches_of(numbers[1]))
    return [1 if some_fits(stretches, numbers[1], numbers[2]) else 0]
