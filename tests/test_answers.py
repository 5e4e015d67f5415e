"""The interface: how calls are handed in, what is given back, and what is said of the function."""

import contextlib
import io
import random
import sys
import unittest

from nearstretches.questions import answers
from tests.lines import (
    BOUNDS, HIGHEST, JOINS, PlainLine, add, alike, answered, at, best, bound, cut, either, first, fits, inside, join,
    line, order, row, shows, text, within, word, worth,
)


class OnlyRead(list):
    """A list that lets nobody change it."""

    def refuse(self, *given, **named):
        raise AssertionError("what was handed in is changed")

    append = extend = insert = pop = remove = clear = sort = reverse = refuse
    __setitem__ = __delitem__ = __iadd__ = __imul__ = refuse


SAMPLE = line([
    text(5, 6, 5), word(1, 5), word(2, 6), order(3, 1, 2), add(9, 6), within(4, 3, 3), row(4), at(3, 2), at(3, 4),
    worth(3), shows(4, 3, 5), best(3, 1), alike(3, 4), fits(3, 2, 5), shows(4, 1, 1), row(9), cut(1), word(1, 31), row(3),
])
SAMPLE_ANSWERS = [
    1, 3, 1, 2, 1, 1, 1, 1, 1, 5, 1, 2, 5, 2, 1, 2, 3, 5, 3, 1, 3, 5, 1, 0,
    1, 4200, 3, 2, 3, 5, 3, 1, 1, 2, 1, 1, 1, 1, 1, -7, 1, -2, 1, 1, 1, -1, 1, 0,
]


class FormTest(unittest.TestCase):
    def test_each_answer_has_its_count_ahead(self):
        self.assertEqual(answers(list(SAMPLE)), SAMPLE_ANSWERS)

    def test_calls_by_their_numbers(self):
        calls = [0, 3, 5, 6, 7, 1, 1, 6, 2, 4, 3, 1, 5, 3, 2, 6, 3, 3, 7]
        self.assertEqual(answers(calls), [1, 3, 1, 4, 1, 4, 1, 1, 1, 2, 1, 1])
        calls += [4, 4, 1, 2, 5, 5, 1, 3, 6, 6, 2, 3, 7, 7, 1, 2, 8, 8, 2, 5, 9, 9, 5, 2, 10, 10, 2, 5]
        self.assertEqual(answers(calls)[12:], [1, 3, 1, 1, 1, 2, 1, 1, 1, 1, 1, 1, 1, 1])

    def test_later_calls_by_their_numbers(self):
        # The text 5 6 7 6, the words 5, 6 and 7 as questions 1 to 3, and 5 with 7 behind it as question 4.
        calls = [0, 4, 5, 6, 7, 6, 3, 1, 5, 3, 2, 6, 3, 3, 7, 5, 4, 1, 3]
        for call, told in (
            ([11, 5, 4, 2], [1, 0]), ([11, 5, 2, 4], [1, 2]), ([12, 5, 2, 4], [1, 1]), ([12, 5, 4, 2], [1, 1]),
            ([13, 5, 4, 2], [1, 0]), ([13, 5, 4, 3], [1, 1]), ([14, 5, 2, 3], [1, 1]), ([14, 5, 2, 4], [1, 2]),
            ([15, 2], [5, 2, 2, 2, 4, 4]), ([16, 2, 3], [3, 1, 4, 4]), ([16, 2, 5], [1, 0]), ([17, 4], [1, 1680]),
            ([18, 4, 1, 3], [3, 2, 1, 3]), ([18, 4, 1, 2], [1, -7]), ([19, 2, 1], [3, 1, 2, 2]), ([20, 2, 2], [1, 1]),
            ([20, 2, 3], [1, 0]), ([21, 4, 1, 3], [1, 1]), ([21, 4, 2, 3], [1, 0]),
        ):
            self.assertEqual(answers(calls + call)[10:], told, call)
            self.assertEqual(answers(calls + call + call)[10:], told + told, call)

    def test_no_number_but_a_refusal_is_below_0(self):
        calls = [text(5), word(1, 5), row(1), at(1, HIGHEST), worth(1), best(1, 0), fits(1, 0, 0), shows(1, 1, 1)]
        for told in answered(*calls):
            self.assertGreaterEqual(min(told) if isinstance(told, list) else told, 0)

    def test_a_row_may_look_like_calls(self):
        self.assertEqual(answers([0, 5, 3, 1, 1, 2, 2, 1, 2, 3, 1, 3, 1, 1]), [1, 5, 1, 7, 1, 3])

    def test_gives_back_a_list_of_whole_numbers(self):
        told = answers(list(SAMPLE))
        self.assertIs(type(told), list)
        self.assertEqual({type(number) for number in told}, {int})

    def test_one_call(self):
        self.assertEqual(answers([2, 0]), [1, 0])
        self.assertEqual(answers([0, 0]), [1, 0])
        self.assertEqual(answers([1, 0]), [1, 0])

    def test_the_longest_rows(self):
        calls = [text(*[HIGHEST] * 70)] * 20 + [add(*[1] * 70)] * 20
        self.assertEqual(answered(*calls), [-1] * 20 + [-5] * 20)


class FunctionTest(unittest.TestCase):
    def test_what_is_handed_in_stays_as_it_was(self):
        handed = OnlyRead(SAMPLE)
        self.assertEqual(answers(handed), SAMPLE_ANSWERS)
        self.assertEqual(list(handed), SAMPLE)

    def test_what_is_given_back_is_new_each_time(self):
        handed = list(SAMPLE)
        told = answers(handed)
        told.clear()
        self.assertEqual(handed, SAMPLE)
        self.assertEqual(answers(handed), SAMPLE_ANSWERS)

    def test_two_times_in_a_row_know_nothing_of_one_another(self):
        self.assertEqual(answered(text(5, 5), word(1, 5)), [2, 2])
        self.assertEqual(answered(add(5), either(2, 1, 1), word(1, 5)), [1, -2, 1])
        self.assertEqual(answers(list(SAMPLE)), answers(list(SAMPLE)))

    def test_a_time_that_failed_leaves_nothing(self):
        with self.assertRaises(Exception):
            answers([0, 1, 5, 3, 1, 5, 3, 2])
        self.assertEqual(answered(cut(60), either(2, 1, 1)), [0, -2])

    def test_prints_nothing(self):
        out, err = io.StringIO(), io.StringIO()
        with contextlib.redirect_stdout(out), contextlib.redirect_stderr(err):
            answers(list(SAMPLE))
        self.assertEqual(out.getvalue() + err.getvalue(), "")

    def answered_with_few_frames(self, calls):
        """What is answered if the program has room for only a few calls within one another."""
        self.assertEqual(len(calls), 40)
        before = sys.getrecursionlimit()
        try:
            sys.setrecursionlimit(len(_frames()) + 25)
            return answered(*calls)
        finally:
            sys.setrecursionlimit(before)

    def test_the_deepest_question_is_gone_through_by_loops(self):
        calls = [text(*[1] * 60), word(1, 1), word(2, 1)] + [inside(1, 1, 2)] * 36 + [cut(50)]
        self.assertEqual(self.answered_with_few_frames(calls), [60] * 39 + [50])

    def test_the_longest_chain(self):
        for chained in (within(1, 1, 60), first(1, 1, 60)):
            calls = [word(1, 1)] + [chained] * 39
            self.assertEqual(self.answered_with_few_frames(calls), [0] * 40)

    def test_the_longest_chain_that_can_be_asked_about_a_text(self):
        for chained in (within(1, 1, 60), first(1, 1, 60)):
            for asked, told in ((shows(1, 60, 60), [1, 60]), (best(1, 1), [1, 1, 1]), (worth(1), 60 * 5040), (cut(7), 7)):
                calls = [text(*[1] * 60), word(1, 1)] + [chained] * 37 + [asked]
                self.assertEqual(self.answered_with_few_frames(calls), [60] * 39 + [told])

    def test_the_longest_chains_of_joins(self):
        for name, many in (("around", 1), ("both", 1), ("either", 1), ("order", 37), ("next", 37)):
            calls = [text(*[1] * 60), word(1, 1), word(2, 1)] + [join(name, 1, 1, 2)] * 36
            told = self.answered_with_few_frames(calls + [shows(1, 1, many)])[-1]
            self.assertEqual(told, [many] + list(range(1, many + 1)), name)

    def test_as_many_words_as_a_question_can_have(self):
        for name in ("either", "both", "around", "inside"):
            calls = [text(*[1] * 60), word(1, 1)] + [join(name, 1, 1, 1)] * 6
            calls += [first(1, 1, 60)] * 31 + [shows(1, 60, 60)]
            self.assertEqual(self.answered_with_few_frames(calls)[-1], [1, 60], name)


def _frames():
    frame, frames = sys._getframe(), []
    while frame is not None:
        frames.append(frame)
        frame = frame.f_back
    return frames


class ManyLinesTest(unittest.TestCase):
    """Lines made by a fixed rule, held against the document's definitions."""

    def number(self, source, highest):
        odd = source.randrange(40)
        return (0, highest + 1, HIGHEST)[odd] if odd < 3 else source.randint(1, highest)

    def words(self, source, kinds, most):
        words = [source.randint(1, kinds) for _ in range(source.randint(0, most))]
        if source.randrange(20) == 0:
            words.append(source.choice((0, 31, HIGHEST)))
        return words

    def call(self, source, kinds, numbers, plain):
        way = source.randrange(28)
        if way == 0:
            return text(*self.words(source, kinds, 61))
        if way == 1:
            return add(*self.words(source, kinds, 12))
        if way == 2:
            return cut(source.choice((0, 3, 20, 40, 60, HIGHEST)))
        if way < 5:
            return word(min(self.number(source, 20), numbers), source.randint(1, kinds))
        if way >= 13:
            return self.ask(source, numbers, plain)
        s = source.choice((source.randint(1, numbers), self.number(source, 20)))
        if way >= 10:
            n = source.choice((0, 1, 2, 3, 5, 8, 20, 40, 60, 61, HIGHEST))
            return bound(source.choice(list(BOUNDS)), s, source.randint(1, numbers), n)
        return join(source.choice(list(JOINS)), s, source.randint(1, numbers), source.randint(1, numbers))

    def ask(self, source, numbers, plain):
        s = source.choice((source.randint(1, numbers), source.randint(1, numbers), self.number(source, 20)))
        places = [source.choice((0, 1, 2, source.randint(1, 61), HIGHEST)) for _ in range(2)]
        found = plain.stretches(plain.laid[s]) if s in plain.laid else []
        if found and source.randrange(4):
            places = list(source.choice(found))
            if source.randrange(6) == 0:
                places[source.randrange(2)] += source.choice((-1, 1))
        return source.choice((
            row(s), at(s, places[0]), worth(s), shows(s, *places), shows(s, *places), best(s, places[0] % 9),
            alike(s, source.randint(1, numbers)), fits(s, *places),
        ))

    def test_lines(self):
        source = random.Random(20)
        for _ in range(1500):
            kinds, numbers = source.choice((2, 3, 5, 30)), source.choice((3, 5, 8))
            calls = [text(*self.words(source, kinds, 60))]
            calls += [word(s, source.randint(1, kinds)) for s in range(1, numbers + 1)]
            plain = PlainLine()
            told = [plain.answer(call) for call in calls]
            while len(calls) < 40:
                calls.append(self.call(source, kinds, numbers, plain))
                told.append(plain.answer(calls[-1]))
            self.assertEqual(answered(*calls), told, calls)


if __name__ == "__main__":
    unittest.main()
