"""A line of calls, answered one after another."""

from nearstretches.asking import asked
from nearstretches.callnumbers import ADD, CUT, FIRST, TEXT, WITHIN, WORD
from nearstretches.nearness import Nearness

# By a call's number: how many numbers stand behind it, a row's count among them, but not the row.
NUMBERS_BEHIND = (1, 1, 1, 2, 3, 3, 3, 3, 3, 3, 3, 3, 3, 3, 3, 1, 2, 1, 3, 2, 2, 3)


def end_of_call(calls, start):
    """Where the call that starts there is over and the one behind it starts."""
    end = start + 1 + NUMBERS_BEHIND[calls[start]]
    if calls[start] in (TEXT, ADD):
        end += calls[start + 1]
    return end


def text_changed(state, call, numbers):
    if call == TEXT:
        return state.take_text(numbers[1:])
    if call == ADD:
        return state.add_words(numbers[1:])
    return state.cut_text(numbers[0])


def question_laid(state, call, numbers):
    if call == WORD:
        return state.lay_word(numbers[0], numbers[1])
    if call in (WITHIN, FIRST):
        return state.lay_bounded(call, numbers[0], numbers[1], numbers[2])
    return state.lay_joined(call, numbers[0], numbers[1], numbers[2])


def answer(state, call, numbers):
    if call <= CUT:
        return [text_changed(state, call, numbers)]
    if call <= FIRST:
        return [question_laid(state, call, numbers)]
    return asked(state, call, numbers)


def answers(calls):
    """For each call how many numbers are answered, and these."""
    state = Nearness()
    told = []
    start = 0
    while start < len(calls):
        end = end_of_call(calls, start)
        numbers = answer(state, calls[start], calls[start + 1:end])
        told.append(len(numbers))
        told.extend(numbers)
        start = end
    return told
