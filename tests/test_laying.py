"""The calls that lay a question, and what promise 2 says of them."""

import unittest

from tests.lines import (
    HIGHEST, JOINS, add, answered, apart, around, both, cut, either, inside, join, next_to, order, text, word,
)


def doubled(times):
    """Question 1 as the word 1, joined with itself until it has 2 ** times words in it."""
    return [word(1, 1)] + [both(1, 1, 1)] * times


class WordTest(unittest.TestCase):
    def test_has_a_stretch_at_each_place(self):
        self.assertEqual(answered(text(5, 6, 5, 5), word(1, 5), word(2, 6), word(3, 7)), [4, 3, 1, 0])

    def test_numbers_at_their_edges(self):
        self.assertEqual(answered(text(1, 30, 1), word(1, 1), word(20, 30)), [3, 2, 1])
        for wrong in (0, 21, HIGHEST):
            self.assertEqual(answered(word(wrong, 1)), [-1], wrong)
        for wrong in (0, 31, HIGHEST):
            self.assertEqual(answered(word(1, wrong)), [-1], wrong)
            self.assertEqual(answered(word(wrong, wrong)), [-1], wrong)

    def test_a_refusal_leaves_what_the_number_was(self):
        for wrong in (0, 31):
            self.assertEqual(answered(text(5), word(1, 5), word(1, wrong), either(2, 1, 1)), [1, 1, -1, 1])
            self.assertEqual(answered(text(5), word(1, wrong), either(2, 1, 1)), [1, -1, -2])

    def test_a_question_number_is_not_a_word(self):
        self.assertEqual(answered(text(3, 3, 8), word(3, 8), either(4, 3, 3)), [3, 1, 1])


class JoinTest(unittest.TestCase):
    """The stretches behind each count are held to the document in test_stretches."""

    def test_either(self):
        calls = (text(5, 6, 5, 7), word(1, 5), word(2, 6), either(3, 1, 2), either(4, 1, 1), order(5, 1, 2))
        self.assertEqual(answered(*calls, either(6, 5, 1)), [4, 2, 1, 3, 2, 1, 2])

    def test_order(self):
        calls = (text(5, 6, 5, 6), word(1, 5), word(2, 6), order(3, 1, 2), order(4, 2, 1), order(5, 1, 1))
        self.assertEqual(answered(*calls), [4, 2, 2, 2, 1, 1])

    def test_order_begins_behind_the_end(self):
        calls = (text(5, 6, 7), word(1, 5), word(2, 6), word(3, 7), order(4, 1, 2), order(5, 2, 3))
        self.assertEqual(answered(*calls, order(6, 4, 5), order(7, 4, 3)), [3, 1, 1, 1, 1, 1, 0, 1])

    def test_order_of_a_word_with_itself_needs_two_places(self):
        self.assertEqual(answered(text(5), word(1, 5), order(2, 1, 1), add(5), order(2, 1, 1)), [1, 1, 0, 2, 1])

    def test_both(self):
        calls = (text(5, 6, 7, 5), word(1, 5), word(2, 6), both(3, 1, 2), both(4, 2, 1), both(5, 1, 1))
        self.assertEqual(answered(*calls), [4, 2, 1, 2, 2, 2])
        self.assertEqual(answered(text(5), word(1, 5), word(2, 6), both(3, 1, 2)), [1, 1, 0, 0])

    def test_both_wherever_the_two_lie(self):
        calls = (text(5, 6, 7, 8), word(1, 5), word(2, 7), word(3, 6), word(4, 8))
        calls += (order(5, 1, 2), order(6, 3, 4), both(7, 5, 6), both(8, 5, 3), inside(9, 8, 5), inside(10, 7, 5))
        self.assertEqual(answered(*calls)[5:], [1, 1, 1, 1, 1, 0])

    def test_next(self):
        calls = (text(5, 6, 5, 7, 6, 5), word(1, 5), word(2, 6), next_to(3, 1, 2), next_to(4, 2, 1))
        self.assertEqual(answered(*calls), [6, 3, 2, 1, 2])

    def test_next_goes_by_the_end_of_the_first(self):
        calls = (text(5, 6, 7), word(1, 5), word(2, 6), word(3, 7), next_to(4, 1, 2), next_to(5, 4, 3))
        self.assertEqual(answered(*calls, next_to(6, 4, 2), next_to(7, 1, 3)), [3, 1, 1, 1, 1, 1, 0, 0])

    def test_inside(self):
        calls = (text(5, 6, 7, 6), word(1, 5), word(2, 6), word(3, 7), order(4, 1, 3))
        self.assertEqual(answered(*calls, inside(5, 2, 4), inside(6, 4, 2), inside(7, 4, 4))[5:], [1, 0, 1])
        self.assertEqual(answered(*calls, inside(5, 1, 4), inside(6, 3, 4), inside(7, 1, 3))[5:], [1, 1, 0])

    def test_around(self):
        calls = (text(5, 6, 7, 6), word(1, 5), word(2, 6), word(3, 7), order(4, 1, 3))
        self.assertEqual(answered(*calls, around(5, 4, 2), around(6, 2, 4), around(7, 4, 4))[5:], [1, 0, 1])
        self.assertEqual(answered(*calls, around(5, 4, 1), around(6, 4, 3), around(7, 1, 3))[5:], [1, 1, 0])

    def test_apart(self):
        calls = (text(5, 6, 7, 6), word(1, 5), word(2, 6), word(3, 7), order(4, 1, 3))
        self.assertEqual(answered(*calls, apart(5, 2, 4), apart(6, 4, 2), apart(7, 4, 4))[5:], [1, 0, 0])
        self.assertEqual(answered(*calls, apart(5, 1, 4), apart(6, 3, 4), apart(7, 1, 3))[5:], [0, 0, 1])

    def test_apart_when_neither_lies_in_the_other(self):
        calls = (text(5, 6, 7, 8), word(1, 5), word(2, 6), word(3, 7), word(4, 8))
        calls += (order(5, 1, 3), order(6, 2, 4), order(7, 1, 2), order(8, 3, 4))
        self.assertEqual(answered(*calls, apart(9, 5, 6), apart(9, 6, 5), apart(9, 7, 8))[9:], [0, 0, 1])

    def test_with_a_question_that_has_no_stretch(self):
        for name, left, right in (
            ("either", 1, 1), ("order", 0, 0), ("both", 0, 0), ("next", 0, 0),
            ("inside", 0, 0), ("around", 0, 0), ("apart", 1, 0),
        ):
            calls = (text(5), word(1, 5), word(2, 6), join(name, 3, 1, 2), join(name, 4, 2, 1))
            self.assertEqual(answered(*calls), [1, 1, 0, left, right], name)

    def test_of_no_words(self):
        for name in JOINS:
            self.assertEqual(answered(word(1, 5), join(name, 2, 1, 1)), [0, 0], name)


class NumbersTest(unittest.TestCase):
    def test_at_their_edges(self):
        for name in JOINS:
            for s in (1, 20):
                calls = (word(1, 1), word(20, 1), join(name, s, 1, 20), join(name, s, 20, 1))
                self.assertEqual(answered(*calls), [0, 0, 0, 0], name)

    def test_s_is_not_1_to_20(self):
        for name in JOINS:
            for s in (0, 21, HIGHEST):
                self.assertEqual(answered(word(1, 1), join(name, s, 1, 1)), [0, -1], name)

    def test_i_or_j_is_not_laid(self):
        for name in JOINS:
            for other in (0, 2, 20, 21, HIGHEST):
                self.assertEqual(answered(word(1, 1), join(name, 3, 1, other)), [0, -2], name)
                self.assertEqual(answered(word(1, 1), join(name, 3, other, 1)), [0, -2], name)
                self.assertEqual(answered(word(1, 1), join(name, 3, other, other)), [0, -2], name)

    def test_a_question_is_not_laid_by_being_asked_of_itself(self):
        for name in JOINS:
            self.assertEqual(answered(word(1, 1), join(name, 2, 2, 1), join(name, 2, 1, 2)), [0, -2, -2], name)

    def test_64_words_in_a_question_and_65(self):
        for name in JOINS:
            calls = doubled(5) + [word(2, 1)] + [both(3, 1, 1), join(name, 4, 1, 1), join(name, 5, 3, 2)]
            self.assertEqual(answered(text(1), *calls)[-2], 0 if name in ("order", "next", "apart") else 1, name)
            self.assertEqual(answered(text(1), *calls)[-1], -5, name)
            self.assertEqual(answered(text(1), *calls, join(name, 5, 2, 3))[-1], -5, name)
            self.assertEqual(answered(text(1), *calls, join(name, 6, 4, 2))[-1], -5, name)

    def test_a_word_that_comes_in_twice_counts_twice(self):
        calls = [text(1)] + doubled(6) + [both(1, 1, 1), either(2, 1, 1)]
        self.assertEqual(answered(*calls), [1] * 8 + [-5, -5])

    def test_63_and_1(self):
        calls = [text(1)] + doubled(4) + [both(2, 1, 1), both(3, 2, 1), word(4, 1), both(5, 4, 4), both(6, 5, 5)]
        calls += [both(7, 6, 6), both(8, 7, 6), both(9, 8, 5), both(10, 9, 4), both(11, 3, 10)]
        sizes = {2: 32, 3: 48, 5: 2, 6: 4, 7: 8, 8: 12, 9: 14, 10: 15, 11: 63}
        self.assertEqual(answered(*calls), [1] * len(calls))
        for number, size in sizes.items():
            for other, more in sizes.items():
                told = answered(*calls, apart(12, number, other))[-1]
                self.assertEqual(told, -5 if size + more > 64 else 0, (size, more))
        self.assertEqual(answered(*calls, both(12, 11, 4), both(13, 12, 4), both(14, 11, 5))[-3:], [1, -5, -5])


class RefusalTest(unittest.TestCase):
    def test_of_several_the_one_told_first(self):
        full = [text(1)] + doubled(6)
        for name in JOINS:
            self.assertEqual(answered(*full, join(name, 0, 2, 1))[-1], -1, name)
            self.assertEqual(answered(*full, join(name, 21, 1, 2))[-1], -1, name)
            self.assertEqual(answered(*full, join(name, 21, 1, 1))[-1], -1, name)
            self.assertEqual(answered(*full, join(name, 3, 2, 1))[-1], -2, name)
            self.assertEqual(answered(*full, join(name, 3, 1, 2))[-1], -2, name)
            self.assertEqual(answered(*full, join(name, 3, 1, 1))[-1], -5, name)

    def test_leaves_what_the_number_was(self):
        for name in JOINS:
            calls = [text(1, 2, 2)] + doubled(6) + [word(2, 2), word(3, 1)]
            calls += [join(name, 2, 1, 1), join(name, 2, 9, 3), join(name, 2, 3, 9), either(4, 2, 2)]
            self.assertEqual(answered(*calls)[-4:], [-5, -2, -2, 2], name)

    def test_lays_nothing(self):
        for name in JOINS:
            calls = [text(1)] + doubled(6) + [join(name, 2, 1, 1), join(name, 3, 1, 2), either(4, 2, 2)]
            self.assertEqual(answered(*calls, either(4, 3, 3))[-4:], [-5, -2, -2, -2], name)

    def test_leaves_the_words_that_a_question_counts(self):
        calls = [text(1)] + doubled(5) + [both(2, 1, 1), both(2, 2, 1), both(2, 1, 1)]
        self.assertEqual(answered(*calls)[-3:], [1, -5, 1])


class LaidThenTest(unittest.TestCase):
    def test_joined_of_questions_as_they_were_laid_then(self):
        calls = (text(5, 6, 6), word(1, 5), word(2, 6), either(3, 1, 2), word(1, 7), word(2, 7))
        self.assertEqual(answered(*calls, either(4, 3, 3)), [3, 1, 2, 3, 0, 0, 3])

    def test_that_holds_through_several_joins_and_a_new_text(self):
        calls = (word(1, 5), word(2, 6), order(3, 1, 2), both(4, 3, 3), word(1, 7), word(2, 7), word(3, 7))
        self.assertEqual(answered(*calls, text(5, 6, 5, 6), either(5, 4, 4), either(5, 3, 3))[-2:], [2, 0])

    def test_laying_forgets_what_the_number_was(self):
        calls = (text(5, 6, 6), word(1, 5), word(1, 6), either(2, 1, 1))
        self.assertEqual(answered(*calls), [3, 1, 2, 2])
        calls = (text(5, 6, 6), word(1, 5), word(2, 6), either(2, 1, 1), either(3, 2, 2))
        self.assertEqual(answered(*calls), [3, 1, 2, 1, 1])

    def test_joined_under_the_number_of_a_part(self):
        calls = (text(5, 6, 5), word(1, 5), word(2, 6), order(1, 1, 2), order(2, 1, 1), either(3, 1, 1))
        self.assertEqual(answered(*calls), [3, 2, 1, 1, 0, 1])
        calls = (text(5, 5, 5), word(1, 5), order(1, 1, 1), order(1, 1, 1))
        self.assertEqual(answered(*calls), [3, 3, 2, 0])

    def test_laying_anew_forgets_how_many_words_it_had(self):
        calls = [text(1)] + doubled(6) + [word(1, 1), both(2, 1, 1)]
        self.assertEqual(answered(*calls)[-2:], [1, 1])

    def test_questions_stand_when_the_text_changes(self):
        calls = (word(1, 5), word(2, 6), order(3, 1, 2), text(5, 6, 5), either(4, 3, 3), add(6), either(4, 3, 3))
        self.assertEqual(answered(*calls), [0, 0, 0, 3, 1, 4, 2])
        calls += (cut(1), either(4, 3, 3), either(4, 1, 1), text(), either(4, 1, 1), add(5, 5), either(4, 1, 1))
        self.assertEqual(answered(*calls)[7:], [1, 0, 1, 0, 0, 2, 2])

    def test_questions_stand_when_a_text_is_refused(self):
        calls = (text(5, 6), word(1, 5), text(5, 5, 0), either(2, 1, 1), add(5, 31), either(2, 1, 1))
        self.assertEqual(answered(*calls, add(*[5] * 60), either(2, 1, 1)), [2, 1, -1, 1, -1, 1, -5, 1])


if __name__ == "__main__":
    unittest.main()
