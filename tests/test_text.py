"""The calls text, add and cut, and promise 1."""

import unittest

from tests.lines import HIGHEST, add, answered, cut, text, word


class TextTest(unittest.TestCase):
    def test_answers_how_many_places(self):
        self.assertEqual(answered(text(5, 6, 5)), [3])

    def test_no_words(self):
        self.assertEqual(answered(text(), word(1, 1)), [0, 0])

    def test_is_empty_at_the_beginning(self):
        self.assertEqual(answered(add(), cut(60), word(1, 1)), [0, 0, 0])

    def test_takes_the_place_of_the_text_before(self):
        calls = (text(5, 5, 5), text(6, 5), word(1, 5), word(2, 6), text(), word(3, 5))
        self.assertEqual(answered(*calls), [3, 2, 1, 1, 0, 0])

    def test_words_at_their_edges(self):
        self.assertEqual(answered(text(1, 30)), [2])
        for wrong in (0, 31, HIGHEST):
            for words in ((wrong,), (wrong, 1), (1, wrong), (1, wrong, 30)):
                self.assertEqual(answered(text(*words)), [-1], words)

    def test_at_most_60_places(self):
        self.assertEqual(answered(text(*[7] * 60)), [60])
        self.assertEqual(answered(text(*[7] * 61)), [-1])
        self.assertEqual(answered(text(*[7] * 70)), [-1])
        self.assertEqual(answered(text(*[0] * 70)), [-1])

    def test_a_refusal_leaves_the_text(self):
        for wrong in (text(6, 0), text(31, 6), text(*[6] * 61)):
            calls = (text(5, 6), wrong, word(1, 5), word(2, 6), cut(60))
            self.assertEqual(answered(*calls), [2, -1, 1, 1, 2], wrong)


class AddTest(unittest.TestCase):
    def test_answers_how_many_places(self):
        self.assertEqual(answered(add(1), add(2, 3), add(), add(4)), [1, 3, 3, 4])

    def test_comes_behind_the_last_place(self):
        calls = (text(5), add(6, 7), cut(2), word(1, 6), word(2, 7), cut(1), word(3, 5), word(4, 6))
        self.assertEqual(answered(*calls), [1, 3, 2, 1, 0, 1, 1, 0])

    def test_words_at_their_edges(self):
        self.assertEqual(answered(text(5), add(1, 30)), [1, 3])
        for wrong in (0, 31, HIGHEST):
            for words in ((wrong,), (wrong, 1), (1, wrong), (1, wrong, 30)):
                self.assertEqual(answered(text(5), add(*words)), [1, -1], words)

    def test_at_most_60_places(self):
        self.assertEqual(answered(add(*[7] * 60), add(), add(7)), [60, 60, -5])
        self.assertEqual(answered(add(*[7] * 61)), [-5])
        self.assertEqual(answered(add(*[7] * 70)), [-5])
        self.assertEqual(answered(text(*[7] * 59), add(7, 7), add(7)), [59, -5, 60])
        self.assertEqual(answered(text(*[7] * 30), add(*[7] * 31), add(*[7] * 30)), [30, -5, 60])

    def test_a_wrong_word_is_told_ahead_of_too_many_places(self):
        self.assertEqual(answered(add(*[7] * 60 + [31])), [-1])
        self.assertEqual(answered(text(*[7] * 60), add(0)), [60, -1])
        self.assertEqual(answered(text(*[7] * 60), add(7, HIGHEST)), [60, -1])

    def test_a_refusal_leaves_the_text(self):
        for wrong, refusal in ((add(6, 0), -1), (add(6, 31), -1), (add(*[6] * 59), -5)):
            calls = (text(5, 6), wrong, word(1, 5), word(2, 6), cut(60))
            self.assertEqual(answered(*calls), [2, refusal, 1, 1, 2], wrong)


class CutTest(unittest.TestCase):
    def test_only_the_first_stay(self):
        calls = (text(5, 6, 5, 7), cut(2), word(1, 5), word(2, 6), word(3, 7), add(7), word(3, 7))
        self.assertEqual(answered(*calls), [4, 2, 1, 1, 0, 3, 1])

    def test_all_stay_if_there_are_no_more(self):
        for n in (3, 4, 60, 61, HIGHEST):
            self.assertEqual(answered(text(5, 6, 5), cut(n), word(1, 5)), [3, 3, 2], n)

    def test_to_one_less_and_to_one(self):
        self.assertEqual(answered(text(5, 6, 5), cut(2), cut(1), word(1, 5)), [3, 2, 1, 1])

    def test_to_none(self):
        self.assertEqual(answered(text(5, 6), cut(0), word(1, 5), add(5), word(1, 5)), [2, 0, 0, 1, 1])

    def test_of_no_words(self):
        self.assertEqual(answered(cut(0), cut(5), cut(HIGHEST)), [0, 0, 0])


if __name__ == "__main__":
    unittest.main()
