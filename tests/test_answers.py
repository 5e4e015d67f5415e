"""The interface: how calls are handed in, what is given back, and what is said of the function."""

import contextlib
import io
import random
import sys
import unittest

from nearstretches.questions import answers
from tests.lines import (
    HIGHEST, JOINS, add, answered, cut, either, inside, join, line, order, plainly_answered, text, word,
)


class OnlyRead(list):
    """A list that lets nobody change it."""

    def refuse(self, *given, **named):
        raise AssertionError("what was handed in is changed")

    append = extend = insert = pop = remove = clear = sort = reverse = refuse
    __setitem__ = __delitem__ = __iadd__ = __imul__ = refuse


SAMPLE = line([text(5, 6, 5), word(1, 5), word(2, 6), order(3, 1, 2), add(6), either(4, 3, 3), cut(1), word(1, 31)])
SAMPLE_ANSWERS = [1, 3, 1, 2, 1, 1, 1, 1, 1, 4, 1, 2, 1, 1, 1, -1]


class FormTest(unittest.TestCase):
    def test_each_answer_has_its_count_ahead(self):
        self.assertEqual(answers(list(SAMPLE)), SAMPLE_ANSWERS)

    def test_calls_by_their_numbers(self):
        calls = [0, 3, 5, 6, 7, 1, 1, 6, 2, 4, 3, 1, 5, 3, 2, 6, 3, 3, 7]
        self.assertEqual(answers(calls), [1, 3, 1, 4, 1, 4, 1, 1, 1, 2, 1, 1])
        calls += [4, 4, 1, 2, 5, 5, 1, 3, 6, 6, 2, 3, 7, 7, 1, 2, 8, 8, 2, 5, 9, 9, 5, 2, 10, 10, 2, 5]
        self.assertEqual(answers(calls)[12:], [1, 3, 1, 1, 1, 2, 1, 1, 1, 1, 1, 1, 1, 1])

    def test_a_row_may_look_like_calls(self):
        self.assertEqual(answers([0, 5, 3, 1, 1, 2, 2, 1, 2, 3, 1, 3, 1, 1]), [1, 5, 1, 7, 1, 3])

    def test_gives_back_a_list_of_whole_numbers(self):
        told = answers(list(SAMPLE))
        self.assertIs(type(told), list)
        self.assertEqual({type(number) for number in told}, {int})

    def test_one_call(self):
        self.assertEqual(answers([2, 0]), [1, 0])
        self.assertEqual(answers([0, 0]), [1, 0])
        self.assertEqual(answers([1, 0]), [1, 0])

    def test_the_longest_rows(self):
        calls = [text(*[HIGHEST] * 70)] * 20 + [add(*[1] * 70)] * 20
        self.assertEqual(answered(*calls), [-1] * 20 + [-5] * 20)


class FunctionTest(unittest.TestCase):
    def test_what_is_handed_in_stays_as_it_was(self):
        handed = OnlyRead(SAMPLE)
        self.assertEqual(answers(handed), SAMPLE_ANSWERS)
        self.assertEqual(list(handed), SAMPLE)

    def test_what_is_given_back_is_new_each_time(self):
        handed = list(SAMPLE)
        told = answers(handed)
        told.clear()
        self.assertEqual(handed, SAMPLE)
        self.assertEqual(answers(handed), SAMPLE_ANSWERS)

    def test_two_times_in_a_row_know_nothing_of_one_another(self):
        self.assertEqual(answered(text(5, 5), word(1, 5)), [2, 2])
        self.assertEqual(answered(add(5), either(2, 1, 1), word(1, 5)), [1, -2, 1])
        self.assertEqual(answers(list(SAMPLE)), answers(list(SAMPLE)))

    def test_a_time_that_failed_leaves_nothing(self):
        with self.assertRaises(Exception):
            answers([0, 1, 5, 3, 1, 5, 3, 2])
        self.assertEqual(answered(cut(60), either(2, 1, 1)), [0, -2])

    def test_prints_nothing(self):
        out, err = io.StringIO(), io.StringIO()
        with contextlib.redirect_stdout(out), contextlib.redirect_stderr(err):
            answers(list(SAMPLE))
        self.assertEqual(out.getvalue() + err.getvalue(), "")

    def test_the_deepest_question_is_gone_through_by_loops(self):
        calls = [text(*[1] * 60), word(1, 1), word(2, 1)] + [inside(1, 1, 2)] * 36 + [cut(50)]
        self.assertEqual(len(calls), 40)
        deep = len(_frames()) + 25
        before = sys.getrecursionlimit()
        try:
            sys.setrecursionlimit(deep)
            told = answers(line(calls))
        finally:
            sys.setrecursionlimit(before)
        self.assertEqual(told, [1, 60] * 39 + [1, 50])


def _frames():
    frame, frames = sys._getframe(), []
    while frame is not None:
        frames.append(frame)
        frame = frame.f_back
    return frames


class ManyLinesTest(unittest.TestCase):
    """Lines made by a fixed rule, held against the document's definitions."""

    def number(self, source, highest):
        odd = source.randrange(40)
        return (0, highest + 1, HIGHEST)[odd] if odd < 3 else source.randint(1, highest)

    def words(self, source, kinds, most):
        words = [source.randint(1, kinds) for _ in range(source.randint(0, most))]
        if source.randrange(20) == 0:
            words.append(source.choice((0, 31, HIGHEST)))
        return words

    def call(self, source, kinds, numbers):
        way = source.randrange(14)
        if way == 0:
            return text(*self.words(source, kinds, 61))
        if way == 1:
            return add(*self.words(source, kinds, 12))
        if way == 2:
            return cut(source.choice((0, 3, 20, 40, 60, HIGHEST)))
        if way < 5:
            return word(min(self.number(source, 20), numbers), source.randint(1, kinds))
        s = source.choice((source.randint(1, numbers), self.number(source, 20)))
        return join(source.choice(list(JOINS)), s, source.randint(1, numbers), source.randint(1, numbers))

    def test_lines(self):
        source = random.Random(20)
        for _ in range(400):
            kinds, numbers = source.choice((2, 3, 5, 30)), source.choice((3, 5, 8))
            calls = [text(*self.words(source, kinds, 60))]
            calls += [word(s, source.randint(1, kinds)) for s in range(1, numbers + 1)]
            calls += [self.call(source, kinds, numbers) for _ in range(40 - len(calls))]
            self.assertEqual(answered(*calls), plainly_answered(calls), calls)

    def test_brackets_do_not_matter(self):
        source = random.Random(21)
        for name in ("either", "order", "both", "next"):
            for _ in range(60):
                calls = [text(*self.words(source, 4, 40)), word(1, 1), word(2, 2), word(3, 3)]
                calls += [join(name, 4, 1, 2), join(name, 5, 4, 3), join(name, 6, 2, 3), join(name, 7, 1, 6)]
                # Least stretches that all lie in those of the other, both ways, are the same.
                calls += [inside(8, 5, 7), inside(9, 7, 5)]
                told = answered(*calls)
                self.assertEqual({told[5], told[7], told[8], told[9]}, {told[5]}, calls)


if __name__ == "__main__":
    unittest.main()
