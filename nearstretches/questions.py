"""A line of calls, answered one after another."""

from nearstretches.callnumbers import ADD, CUT, TEXT, WORD
from nearstretches.nearness import Nearness

# By a call's number: how many numbers stand behind it, a row's count among them, but not the row.
NUMBERS_BEHIND = (1, 1, 1, 2, 3, 3, 3, 3, 3, 3, 3)


def end_of_call(calls, start):
    """Where the call that starts there is over and the one behind it starts."""
    end = start + 1 + NUMBERS_BEHIND[calls[start]]
    if calls[start] in (TEXT, ADD):
        end += calls[start + 1]
    return end


def answer(state, call, numbers):
    if call == TEXT:
        return [state.take_text(numbers[1:])]
    if call == ADD:
        return [state.add_words(numbers[1:])]
    if call == CUT:
        return [state.cut_text(numbers[0])]
    if call == WORD:
        return [state.lay_word(numbers[0], numbers[1])]
    return [state.lay_joined(call, numbers[0], numbers[1], numbers[2])]


def answers(calls):
    """For each call how many numbers are answered, and these."""
    state = Nearness()
    told = []
    start = 0
    while start < len(calls):
        end = end_of_call(calls, start)
        numbers = answer(state, calls[start], calls[start + 1:end])
        told.append(len(numbers))
        told.extend(numbers)
        start = end
    return told
