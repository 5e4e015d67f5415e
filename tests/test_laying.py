"""The calls that lay a question, and what promise 2 says of them."""

import unittest

from tests.lines import (
    BOUNDS, HIGHEST, JOINS, add, answered, apart, around, both, bound, cut, either, first, inside, join, last, next_to,
    order, outside, row, text, within, without, word,
)


def doubled(times):
    """Question 1 as the word 1, joined with itself until it has 2 ** times words in it."""
    return [word(1, 1)] + [both(1, 1, 1)] * times


class WordTest(unittest.TestCase):
    def test_has_a_stretch_at_each_place(self):
        self.assertEqual(answered(text(5, 6, 5, 5), word(1, 5), word(2, 6), word(3, 7)), [4, 3, 1, 0])

    def test_numbers_at_their_edges(self):
        self.assertEqual(answered(text(1, 30, 1), word(1, 1), word(20, 30)), [3, 2, 1])
        for wrong in (0, 21, HIGHEST):
            self.assertEqual(answered(word(wrong, 1)), [-1], wrong)
        for wrong in (0, 31, HIGHEST):
            self.assertEqual(answered(word(1, wrong)), [-1], wrong)
            self.assertEqual(answered(word(wrong, wrong)), [-1], wrong)

    def test_a_refusal_leaves_what_the_number_was(self):
        for wrong in (0, 31):
            self.assertEqual(answered(text(5), word(1, 5), word(1, wrong), either(2, 1, 1)), [1, 1, -1, 1])
            self.assertEqual(answered(text(5), word(1, wrong), either(2, 1, 1)), [1, -1, -2])

    def test_a_question_number_is_not_a_word(self):
        self.assertEqual(answered(text(3, 3, 8), word(3, 8), either(4, 3, 3)), [3, 1, 1])


class JoinTest(unittest.TestCase):
    """The stretches behind each count are held to the document in test_stretches."""

    def test_either(self):
        calls = (text(5, 6, 5, 7), word(1, 5), word(2, 6), either(3, 1, 2), either(4, 1, 1), order(5, 1, 2))
        self.assertEqual(answered(*calls, either(6, 5, 1)), [4, 2, 1, 3, 2, 1, 2])

    def test_order(self):
        calls = (text(5, 6, 5, 6), word(1, 5), word(2, 6), order(3, 1, 2), order(4, 2, 1), order(5, 1, 1))
        self.assertEqual(answered(*calls), [4, 2, 2, 2, 1, 1])

    def test_order_begins_behind_the_end(self):
        calls = (text(5, 6, 7), word(1, 5), word(2, 6), word(3, 7), order(4, 1, 2), order(5, 2, 3))
        self.assertEqual(answered(*calls, order(6, 4, 5), order(7, 4, 3)), [3, 1, 1, 1, 1, 1, 0, 1])

    def test_order_of_a_word_with_itself_needs_two_places(self):
        self.assertEqual(answered(text(5), word(1, 5), order(2, 1, 1), add(5), order(2, 1, 1)), [1, 1, 0, 2, 1])

    def test_both(self):
        calls = (text(5, 6, 7, 5), word(1, 5), word(2, 6), both(3, 1, 2), both(4, 2, 1), both(5, 1, 1))
        self.assertEqual(answered(*calls), [4, 2, 1, 2, 2, 2])
        self.assertEqual(answered(text(5), word(1, 5), word(2, 6), both(3, 1, 2)), [1, 1, 0, 0])

    def test_both_wherever_the_two_lie(self):
        calls = (text(5, 6, 7, 8), word(1, 5), word(2, 7), word(3, 6), word(4, 8))
        calls += (order(5, 1, 2), order(6, 3, 4), both(7, 5, 6), both(8, 5, 3), inside(9, 8, 5), inside(10, 7, 5))
        self.assertEqual(answered(*calls)[5:], [1, 1, 1, 1, 1, 0])

    def test_next(self):
        calls = (text(5, 6, 5, 7, 6, 5), word(1, 5), word(2, 6), next_to(3, 1, 2), next_to(4, 2, 1))
        self.assertEqual(answered(*calls), [6, 3, 2, 1, 2])

    def test_next_goes_by_the_end_of_the_first(self):
        calls = (text(5, 6, 7), word(1, 5), word(2, 6), word(3, 7), next_to(4, 1, 2), next_to(5, 4, 3))
        self.assertEqual(answered(*calls, next_to(6, 4, 2), next_to(7, 1, 3)), [3, 1, 1, 1, 1, 1, 0, 0])

    def test_inside(self):
        calls = (text(5, 6, 7, 6), word(1, 5), word(2, 6), word(3, 7), order(4, 1, 3))
        self.assertEqual(answered(*calls, inside(5, 2, 4), inside(6, 4, 2), inside(7, 4, 4))[5:], [1, 0, 1])
        self.assertEqual(answered(*calls, inside(5, 1, 4), inside(6, 3, 4), inside(7, 1, 3))[5:], [1, 1, 0])

    def test_around(self):
        calls = (text(5, 6, 7, 6), word(1, 5), word(2, 6), word(3, 7), order(4, 1, 3))
        self.assertEqual(answered(*calls, around(5, 4, 2), around(6, 2, 4), around(7, 4, 4))[5:], [1, 0, 1])
        self.assertEqual(answered(*calls, around(5, 4, 1), around(6, 4, 3), around(7, 1, 3))[5:], [1, 1, 0])

    def test_apart(self):
        calls = (text(5, 6, 7, 6), word(1, 5), word(2, 6), word(3, 7), order(4, 1, 3))
        self.assertEqual(answered(*calls, apart(5, 2, 4), apart(6, 4, 2), apart(7, 4, 4))[5:], [1, 0, 0])
        self.assertEqual(answered(*calls, apart(5, 1, 4), apart(6, 3, 4), apart(7, 1, 3))[5:], [0, 0, 1])

    def test_apart_when_neither_lies_in_the_other(self):
        calls = (text(5, 6, 7, 8), word(1, 5), word(2, 6), word(3, 7), word(4, 8))
        calls += (order(5, 1, 3), order(6, 2, 4), order(7, 1, 2), order(8, 3, 4))
        self.assertEqual(answered(*calls, apart(9, 5, 6), apart(9, 6, 5), apart(9, 7, 8))[9:], [0, 0, 1])

    def test_without(self):
        calls = (text(5, 6, 7, 5, 7), word(1, 5), word(2, 6), word(3, 7), order(4, 1, 3))
        self.assertEqual(last(*calls, without(5, 4, 2), row(5)), [1, 4, 5])
        self.assertEqual(last(*calls, without(5, 4, 1)), 0)
        self.assertEqual(last(*calls, without(5, 4, 4)), 0)
        self.assertEqual(last(*calls, without(5, 1, 4), row(5)), [2, 1, 1, 4, 4])

    def test_without_asks_for_the_whole_stretch(self):
        calls = (text(5, 6, 7, 8), word(1, 5), word(2, 6), word(3, 7), word(4, 8), order(5, 1, 3), order(6, 2, 4))
        self.assertEqual(last(*calls, without(7, 5, 6), row(7)), [1, 1, 3])
        self.assertEqual(last(*calls, without(7, 6, 5), row(7)), [1, 2, 4])

    def test_outside(self):
        calls = (text(5, 6, 7, 6), word(1, 5), word(2, 6), word(3, 7), order(4, 1, 3))
        self.assertEqual(last(*calls, outside(5, 2, 4), row(5)), [1, 4, 4])
        self.assertEqual(last(*calls, outside(5, 1, 4)), 0)
        self.assertEqual(last(*calls, outside(5, 4, 4)), 0)
        self.assertEqual(last(*calls, outside(5, 4, 2), row(5)), [1, 1, 3])

    def test_outside_asks_for_the_whole_stretch(self):
        calls = (text(5, 6, 7, 8), word(1, 5), word(2, 6), word(3, 7), word(4, 8), order(5, 1, 3), order(6, 2, 4))
        self.assertEqual(last(*calls, outside(7, 5, 6), row(7)), [1, 1, 3])
        self.assertEqual(last(*calls, outside(7, 6, 5), row(7)), [1, 2, 4])

    def test_with_a_question_that_has_no_stretch(self):
        for name, left, right in (
            ("either", 1, 1), ("order", 0, 0), ("both", 0, 0), ("next", 0, 0),
            ("inside", 0, 0), ("around", 0, 0), ("apart", 1, 0), ("without", 1, 0), ("outside", 1, 0),
        ):
            calls = (text(5), word(1, 5), word(2, 6), join(name, 3, 1, 2), join(name, 4, 2, 1))
            self.assertEqual(answered(*calls), [1, 1, 0, left, right], name)

    def test_of_no_words(self):
        for name in JOINS:
            self.assertEqual(answered(word(1, 5), join(name, 2, 1, 1)), [0, 0], name)


class BoundTest(unittest.TestCase):
    """Within and first."""

    # Question 3 has the stretches 1 to 2, 4 to 6 and 8 to 8 + 4.
    CALLS = (text(5, 6, 9, 5, 9, 6, 9, 5, 9, 9, 9, 6), word(1, 5), word(2, 6), order(3, 1, 2))

    def test_within(self):
        self.assertEqual(last(*self.CALLS, row(3)), [3, 1, 2, 4, 6, 8, 12])
        for n, told in ((0, 0), (1, 0), (2, [1, 1, 2]), (3, [2, 1, 2, 4, 6]), (4, [2, 1, 2, 4, 6])):
            self.assertEqual(last(*self.CALLS, within(4, 3, n), row(4)), told, n)
        for n in (5, 6, 59, 60):
            self.assertEqual(last(*self.CALLS, within(4, 3, n), row(4)), [3, 1, 2, 4, 6, 8, 12], n)

    def test_first(self):
        for n in (0, 1):
            self.assertEqual(last(*self.CALLS, first(4, 3, n), row(4)), 0, n)
        for n in (2, 4, 5):
            self.assertEqual(last(*self.CALLS, first(4, 3, n), row(4)), [1, 1, 2], n)
        for n in (6, 8, 11):
            self.assertEqual(last(*self.CALLS, first(4, 3, n), row(4)), [2, 1, 2, 4, 6], n)
        for n in (12, 13, 60):
            self.assertEqual(last(*self.CALLS, first(4, 3, n), row(4)), [3, 1, 2, 4, 6, 8, 12], n)

    def test_answers_how_many_stretches(self):
        calls = (within(4, 3, 3), first(5, 3, 2), within(6, 3, 0), first(6, 3, 0))
        self.assertEqual(answered(*self.CALLS, *calls)[4:], [2, 1, 0, 0])

    def test_of_a_word(self):
        calls = (text(5, 6, 5), word(1, 5))
        for n, told in ((0, 0), (1, 2), (60, 2)):
            self.assertEqual(last(*calls, within(2, 1, n)), told)
        for n, told in ((0, 0), (1, 1), (2, 1), (3, 2), (60, 2)):
            self.assertEqual(last(*calls, first(2, 1, n)), told)

    def test_n_at_60_is_the_widest_and_the_last(self):
        calls = (text(5, *[7] * 58, 6), word(1, 5), word(2, 6), order(3, 1, 2))
        self.assertEqual(answered(*calls, within(4, 3, 60), within(4, 3, 59), first(4, 3, 60), first(4, 3, 59))[4:],
                         [1, 0, 1, 0])

    def test_n_above_60(self):
        for name in BOUNDS:
            for n in (61, 62, HIGHEST):
                self.assertEqual(last(*self.CALLS, bound(name, 4, 3, n)), -1, (name, n))
            for n in (0, 1, 60):
                self.assertGreaterEqual(last(*self.CALLS, bound(name, 4, 3, n)), 0, (name, n))

    def test_s_is_1_to_20(self):
        for name in BOUNDS:
            for s in (1, 20):
                self.assertEqual(last(*self.CALLS, bound(name, s, 3, 60)), 3, (name, s))
            for s in (0, 21, HIGHEST):
                self.assertEqual(last(*self.CALLS, bound(name, s, 3, 60)), -1, (name, s))

    def test_i_is_not_laid(self):
        for name in BOUNDS:
            for i in (0, 4, 20, 21, HIGHEST):
                self.assertEqual(last(*self.CALLS, bound(name, 4, i, 60)), -2, (name, i))

    def test_of_several_refusals_the_one_told_first(self):
        for name in BOUNDS:
            for s, i, n in ((0, 9, 60), (21, 9, 61), (4, 9, 61), (0, 3, 61), (HIGHEST, HIGHEST, HIGHEST)):
                self.assertEqual(last(*self.CALLS, bound(name, s, i, n)), -1, (name, s, i, n))

    def test_a_refusal_leaves_what_the_number_was(self):
        for name in BOUNDS:
            for wrong in (bound(name, 1, 3, 61), bound(name, 1, 9, 60), bound(name, 0, 3, 60)):
                self.assertEqual(last(*self.CALLS, wrong, row(1)), [3, 1, 1, 4, 4, 8, 8], wrong)
            for wrong in (bound(name, 4, 3, 61), bound(name, 4, 9, 60)):
                self.assertEqual(last(*self.CALLS, wrong, row(4)), -2, wrong)

    def test_leaves_the_count_of_words_as_it_is(self):
        for name in BOUNDS:
            full = [text(1)] + doubled(6)
            calls = full + [bound(name, 2, 1, 60)] * 3 + [bound(name, 2, 2, 60)] * 3
            self.assertEqual(answered(*calls)[-6:], [1] * 6, name)
            self.assertEqual(last(*calls, word(3, 1), both(4, 2, 3)), -5, name)
            half = [text(1)] + doubled(5) + [bound(name, 2, 1, 60), bound(name, 2, 2, 60), both(3, 2, 2)]
            self.assertEqual(last(*half), 1, name)
            self.assertEqual(last(*half, word(4, 1), both(5, 3, 4)), -5, name)

    def test_n_is_not_a_question_or_a_word(self):
        for name in BOUNDS:
            self.assertEqual(last(text(1, 1), word(1, 1), bound(name, 2, 1, 40)), 2, name)

    def test_under_the_number_of_its_part(self):
        self.assertEqual(answered(*self.CALLS, within(3, 3, 3), first(3, 3, 5), row(3))[4:], [2, 1, [1, 1, 2]])

    def test_goes_by_the_text_as_it_is(self):
        calls = (word(1, 5), word(2, 6), order(3, 1, 2), within(4, 3, 2), first(5, 3, 2))
        told = answered(*calls, text(5, 7, 6), row(4), row(5), text(5, 6, 5, 6), row(4), row(5), cut(1), row(4), row(5))
        self.assertEqual(told[5:], [3, 0, 0, 4, [2, 1, 2, 3, 4], [1, 1, 2], 1, 0, 0])


class NumbersTest(unittest.TestCase):
    def test_at_their_edges(self):
        for name in JOINS:
            for s in (1, 20):
                calls = (word(1, 1), word(20, 1), join(name, s, 1, 20), join(name, s, 20, 1))
                self.assertEqual(answered(*calls), [0, 0, 0, 0], name)

    def test_s_is_not_1_to_20(self):
        for name in JOINS:
            for s in (0, 21, HIGHEST):
                self.assertEqual(answered(word(1, 1), join(name, s, 1, 1)), [0, -1], name)

    def test_i_or_j_is_not_laid(self):
        for name in JOINS:
            for other in (0, 2, 20, 21, HIGHEST):
                self.assertEqual(answered(word(1, 1), join(name, 3, 1, other)), [0, -2], name)
                self.assertEqual(answered(word(1, 1), join(name, 3, other, 1)), [0, -2], name)
                self.assertEqual(answered(word(1, 1), join(name, 3, other, other)), [0, -2], name)

    def test_a_question_is_not_laid_by_being_asked_of_itself(self):
        for name in JOINS:
            self.assertEqual(answered(word(1, 1), join(name, 2, 2, 1), join(name, 2, 1, 2)), [0, -2, -2], name)

    def test_64_words_in_a_question_and_65(self):
        for name in JOINS:
            calls = doubled(5) + [word(2, 1)] + [both(3, 1, 1), join(name, 4, 1, 1), join(name, 5, 3, 2)]
            none = ("order", "next", "apart", "without", "outside")
            self.assertEqual(answered(text(1), *calls)[-2], 0 if name in none else 1, name)
            self.assertEqual(answered(text(1), *calls)[-1], -5, name)
            self.assertEqual(answered(text(1), *calls, join(name, 5, 2, 3))[-1], -5, name)
            self.assertEqual(answered(text(1), *calls, join(name, 6, 4, 2))[-1], -5, name)

    def test_a_word_that_comes_in_twice_counts_twice(self):
        calls = [text(1)] + doubled(6) + [both(1, 1, 1), either(2, 1, 1)]
        self.assertEqual(answered(*calls), [1] * 8 + [-5, -5])

    def test_63_and_1(self):
        calls = [text(1)] + doubled(4) + [both(2, 1, 1), both(3, 2, 1), word(4, 1), both(5, 4, 4), both(6, 5, 5)]
        calls += [both(7, 6, 6), both(8, 7, 6), both(9, 8, 5), both(10, 9, 4), both(11, 3, 10)]
        sizes = {2: 32, 3: 48, 5: 2, 6: 4, 7: 8, 8: 12, 9: 14, 10: 15, 11: 63}
        self.assertEqual(answered(*calls), [1] * len(calls))
        for number, size in sizes.items():
            for other, more in sizes.items():
                told = answered(*calls, apart(12, number, other))[-1]
                self.assertEqual(told, -5 if size + more > 64 else 0, (size, more))
        self.assertEqual(answered(*calls, both(12, 11, 4), both(13, 12, 4), both(14, 11, 5))[-3:], [1, -5, -5])


class RefusalTest(unittest.TestCase):
    def test_of_several_the_one_told_first(self):
        full = [text(1)] + doubled(6)
        for name in JOINS:
            self.assertEqual(answered(*full, join(name, 0, 2, 1))[-1], -1, name)
            self.assertEqual(answered(*full, join(name, 21, 1, 2))[-1], -1, name)
            self.assertEqual(answered(*full, join(name, 21, 1, 1))[-1], -1, name)
            self.assertEqual(answered(*full, join(name, 3, 2, 1))[-1], -2, name)
            self.assertEqual(answered(*full, join(name, 3, 1, 2))[-1], -2, name)
            self.assertEqual(answered(*full, join(name, 3, 1, 1))[-1], -5, name)

    def test_leaves_what_the_number_was(self):
        for name in JOINS:
            calls = [text(1, 2, 2)] + doubled(6) + [word(2, 2), word(3, 1)]
            calls += [join(name, 2, 1, 1), join(name, 2, 9, 3), join(name, 2, 3, 9), either(4, 2, 2)]
            self.assertEqual(answered(*calls)[-4:], [-5, -2, -2, 2], name)

    def test_lays_nothing(self):
        for name in JOINS:
            calls = [text(1)] + doubled(6) + [join(name, 2, 1, 1), join(name, 3, 1, 2), either(4, 2, 2)]
            self.assertEqual(answered(*calls, either(4, 3, 3))[-4:], [-5, -2, -2, -2], name)

    def test_leaves_the_words_that_a_question_counts(self):
        calls = [text(1)] + doubled(5) + [both(2, 1, 1), both(2, 2, 1), both(2, 1, 1)]
        self.assertEqual(answered(*calls)[-3:], [1, -5, 1])


class LaidThenTest(unittest.TestCase):
    def test_joined_of_questions_as_they_were_laid_then(self):
        calls = (text(5, 6, 6), word(1, 5), word(2, 6), either(3, 1, 2), word(1, 7), word(2, 7))
        self.assertEqual(answered(*calls, either(4, 3, 3)), [3, 1, 2, 3, 0, 0, 3])

    def test_that_holds_through_several_joins_and_a_new_text(self):
        calls = (word(1, 5), word(2, 6), order(3, 1, 2), both(4, 3, 3), word(1, 7), word(2, 7), word(3, 7))
        self.assertEqual(answered(*calls, text(5, 6, 5, 6), either(5, 4, 4), either(5, 3, 3))[-2:], [2, 0])

    def test_laying_forgets_what_the_number_was(self):
        calls = (text(5, 6, 6), word(1, 5), word(1, 6), either(2, 1, 1))
        self.assertEqual(answered(*calls), [3, 1, 2, 2])
        calls = (text(5, 6, 6), word(1, 5), word(2, 6), either(2, 1, 1), either(3, 2, 2))
        self.assertEqual(answered(*calls), [3, 1, 2, 1, 1])

    def test_joined_under_the_number_of_a_part(self):
        calls = (text(5, 6, 5), word(1, 5), word(2, 6), order(1, 1, 2), order(2, 1, 1), either(3, 1, 1))
        self.assertEqual(answered(*calls), [3, 2, 1, 1, 0, 1])
        calls = (text(5, 5, 5), word(1, 5), order(1, 1, 1), order(1, 1, 1))
        self.assertEqual(answered(*calls), [3, 3, 2, 0])

    def test_laying_anew_forgets_how_many_words_it_had(self):
        calls = [text(1)] + doubled(6) + [word(1, 1), both(2, 1, 1)]
        self.assertEqual(answered(*calls)[-2:], [1, 1])

    def test_questions_stand_when_the_text_changes(self):
        calls = (word(1, 5), word(2, 6), order(3, 1, 2), text(5, 6, 5), either(4, 3, 3), add(6), either(4, 3, 3))
        self.assertEqual(answered(*calls), [0, 0, 0, 3, 1, 4, 2])
        calls += (cut(1), either(4, 3, 3), either(4, 1, 1), text(), either(4, 1, 1), add(5, 5), either(4, 1, 1))
        self.assertEqual(answered(*calls)[7:], [1, 0, 1, 0, 0, 2, 2])

    def test_questions_stand_when_a_text_is_refused(self):
        calls = (text(5, 6), word(1, 5), text(5, 5, 0), either(2, 1, 1), add(5, 31), either(2, 1, 1))
        self.assertEqual(answered(*calls, add(*[5] * 60), either(2, 1, 1)), [2, 1, -1, 1, -1, 1, -5, 1])


if __name__ == "__main__":
    unittest.main()
