"""Shows: the very places that make a stretch, of each kind of question."""

import random
import unittest

from tests.lines import (
    BOUNDS, HIGHEST, JOINS, PlainLine, add, answered, apart, around, asked_behind, both, bound, cut, either, first,
    inside, join, last, next_to, order, outside, row, shows, text, within, without, word,
)


class EachKindTest(unittest.TestCase):
    # Questions 1 to 5 are the words 5 to 9.
    WORDS = tuple(word(s, s + 4) for s in range(1, 6))

    def shown(self, words, laying, *stretch):
        """What shows answers of the question laid last."""
        return last(text(*words), *self.WORDS, *laying, shows(laying[-1][1], *stretch))

    def test_word(self):
        calls = (text(9, 5, 5), word(1, 5), shows(1, 2, 2), shows(1, 3, 3))
        self.assertEqual(answered(*calls)[2:], [[1, 2], [1, 3]])

    def test_either(self):
        self.assertEqual(self.shown((5, 6), [either(6, 1, 2)], 1, 1), [1, 1])
        self.assertEqual(self.shown((5, 6), [either(6, 1, 2)], 2, 2), [1, 2])

    def test_either_of_a_stretch_that_both_have(self):
        few = [order(6, 1, 3)]
        many = [order(7, 1, 2), order(7, 7, 3)]
        self.assertEqual(self.shown((5, 6, 7), few + many + [either(8, 6, 7)], 1, 3), [2, 1, 3])
        self.assertEqual(self.shown((5, 6, 7), few + many + [either(8, 7, 6)], 1, 3), [3, 1, 2, 3])

    def test_either_goes_stretch_by_stretch(self):
        laying = [order(6, 1, 3), order(7, 1, 2), order(7, 7, 3), first(6, 6, 3), either(8, 6, 7)]
        self.assertEqual(self.shown((5, 6, 7, 5, 6, 7), laying, 1, 3), [2, 1, 3])
        self.assertEqual(self.shown((5, 6, 7, 5, 6, 7), laying, 4, 6), [3, 4, 5, 6])

    def test_order(self):
        self.assertEqual(self.shown((5, 9, 6), [order(6, 1, 2)], 1, 3), [2, 1, 3])

    def test_order_of_wider_ones(self):
        laying = [order(6, 1, 2), order(7, 3, 4), order(8, 6, 7)]
        self.assertEqual(self.shown((5, 9, 6, 9, 7, 8), laying, 1, 6), [4, 1, 3, 5, 6])

    def test_order_takes_the_ones_at_its_begin_and_end(self):
        # Of i there are 1 to 2 and 2 to 4; the second is the one that begins where it begins.
        laying = [order(7, 1, 2), order(8, 2, 1), either(9, 7, 8), order(10, 9, 3)]
        told = answered(text(5, 6, 9, 5, 9, 7), *self.WORDS, *laying, row(9), row(10), shows(10, 2, 6))
        self.assertEqual(told[-3:], [[2, 1, 2, 2, 4], [1, 2, 6], [3, 2, 4, 6]])

    def test_order_of_a_question_with_itself(self):
        self.assertEqual(self.shown((5, 9, 5), [order(6, 1, 1)], 1, 3), [2, 1, 3])

    def test_both(self):
        self.assertEqual(self.shown((6, 9, 5), [both(6, 1, 2)], 1, 3), [2, 1, 3])

    def test_both_tells_a_place_of_either_side_once(self):
        laying = [order(6, 1, 2), order(7, 2, 3), both(8, 6, 7)]
        self.assertEqual(self.shown((5, 6, 7), laying, 1, 3), [3, 1, 2, 3])
        self.assertEqual(self.shown((9, 5), [both(6, 1, 1)], 2, 2), [1, 2])
        self.assertEqual(self.shown((5, 9, 6), [order(6, 1, 2), both(7, 6, 6)], 1, 3), [2, 1, 3])

    def test_both_takes_the_first_that_lies_in_it_of_either(self):
        self.assertEqual(self.shown((5, 6, 6, 7), [order(6, 1, 3), both(7, 6, 2)], 1, 4), [3, 1, 2, 4])
        self.assertEqual(self.shown((5, 6, 6, 7), [order(6, 1, 3), both(7, 2, 6)], 1, 4), [3, 1, 2, 4])

    def test_both_leaves_out_what_does_not_lie_in_it(self):
        self.assertEqual(self.shown((6, 5, 6, 7), [order(6, 1, 3), both(7, 6, 2)], 2, 4), [3, 2, 3, 4])
        # The first of j begins ahead of the stretch and ends in it.
        laying = [order(6, 4, 2), order(7, 1, 3), both(8, 7, 6)]
        self.assertEqual(self.shown((8, 5, 6, 8, 6, 7), laying, 2, 6), [4, 2, 4, 5, 6])

    def test_next(self):
        self.assertEqual(self.shown((9, 5, 6), [next_to(6, 1, 2)], 2, 3), [2, 2, 3])
        laying = [order(6, 1, 2), order(7, 3, 4), next_to(8, 6, 7)]
        self.assertEqual(self.shown((5, 9, 6, 7, 9, 8), laying, 1, 6), [4, 1, 3, 4, 6])

    def test_next_takes_the_ones_at_its_begin_and_end(self):
        # Of i and of j there are 1 to 2, 2 to 3, 3 to 4 and 4 to 5.
        laying = [next_to(6, 1, 1), next_to(7, 6, 6)]
        told = answered(text(5, 5, 5, 5, 5), *self.WORDS, *laying, row(7), shows(7, 1, 4), shows(7, 2, 5))
        self.assertEqual(told[-3:], [[2, 1, 4, 2, 5], [4, 1, 2, 3, 4], [4, 2, 3, 4, 5]])

    def test_order_and_next_tell_each_place_once(self):
        for name in ("order", "next"):
            laying = [both(6, 1, 1), both(7, 2, 2), join(name, 8, 6, 7), both(9, 8, 8), join(name, 10, 9, 3)]
            self.assertEqual(self.shown((5, 6, 7), laying, 1, 3), [3, 1, 2, 3], name)

    def test_inside(self):
        laying = [order(6, 1, 3), inside(7, 2, 6)]
        self.assertEqual(self.shown((5, 6, 7), laying, 2, 2), [1, 2])

    def test_around(self):
        laying = [order(6, 1, 3), around(7, 6, 2)]
        self.assertEqual(self.shown((5, 6, 9, 7), laying, 1, 4), [3, 1, 2, 4])

    def test_around_takes_the_first_of_several(self):
        laying = [order(6, 1, 3), around(7, 6, 2)]
        self.assertEqual(self.shown((6, 5, 9, 6, 6, 6, 7, 6), laying, 2, 7), [3, 2, 4, 7])

    def test_around_leaves_out_one_that_only_reaches_into_it(self):
        laying = [order(6, 1, 3), order(7, 4, 2), around(8, 6, 7)]
        self.assertEqual(self.shown((8, 5, 6, 8, 6, 7), laying, 2, 6), [4, 2, 4, 5, 6])

    def test_around_tells_a_place_of_either_side_once(self):
        laying = [order(6, 1, 3), around(7, 6, 1)]
        self.assertEqual(self.shown((5, 6, 7), laying, 1, 3), [2, 1, 3])
        laying = [order(6, 1, 3), around(7, 6, 6)]
        self.assertEqual(self.shown((5, 6, 7), laying, 1, 3), [2, 1, 3])

    def test_the_kinds_that_leave_the_other_out(self):
        words = (5, 6, 7, 9, 8, 9)
        for laying, stretch, told in (
            ([order(6, 1, 2), order(7, 1, 3), inside(8, 6, 7)], (1, 2), [2, 1, 2]),
            ([order(6, 1, 3), order(7, 2, 4), outside(8, 6, 7)], (1, 3), [2, 1, 3]),
            ([order(6, 1, 3), order(7, 2, 4), without(8, 6, 7)], (1, 3), [2, 1, 3]),
            ([order(6, 1, 3), apart(8, 6, 4)], (1, 3), [2, 1, 3]),
            ([order(6, 1, 3), within(8, 6, 3)], (1, 3), [2, 1, 3]),
            ([order(6, 1, 3), first(8, 6, 3)], (1, 3), [2, 1, 3]),
        ):
            self.assertEqual(self.shown(words, laying, *stretch), told, laying)

    def test_joined_of_joined_ones(self):
        laying = [order(6, 1, 2), either(7, 6, 3), both(8, 7, 4), around(9, 8, 5), within(10, 9, 5), next_to(11, 10, 1)]
        self.assertEqual(self.shown((5, 6, 9, 8, 5, 7), laying, 1, 5), [5, 1, 2, 3, 4, 5])


class RefusalTest(unittest.TestCase):
    CALLS = (text(5, 9, 6, 5, 6), word(1, 5), word(2, 6), order(3, 1, 2))

    def test_not_a_stretch(self):
        right = {(1, 3): [2, 1, 3], (4, 5): [2, 4, 5]}
        pairs = [(a, b) for a in range(8) for b in range(8)]
        told = asked_behind(self.CALLS, [shows(3, a, b) for a, b in pairs])
        self.assertEqual(told, [right.get(pair, -7) for pair in pairs])

    def test_places_that_the_text_has_not(self):
        for a, b in ((0, 0), (0, 3), (1, HIGHEST), (HIGHEST, HIGHEST), (6, 6), (61, 61), (HIGHEST, 0)):
            self.assertEqual(last(*self.CALLS, shows(3, a, b)), -7, (a, b))
            self.assertEqual(last(*self.CALLS, shows(1, a, b)), -7, (a, b))

    def test_a_above_b(self):
        for a, b in ((3, 1), (5, 4), (1, 0)):
            self.assertEqual(last(*self.CALLS, shows(3, a, b)), -7, (a, b))

    def test_a_stretch_of_a_part_is_not_its_own(self):
        self.assertEqual(last(*self.CALLS, shows(3, 1, 1)), -7)
        self.assertEqual(last(*self.CALLS, within(4, 3, 2), shows(4, 1, 3)), -7)
        self.assertEqual(last(*self.CALLS, first(4, 3, 3), shows(4, 4, 5)), -7)

    def test_of_no_words(self):
        for a, b in ((0, 0), (1, 1), (1, 0)):
            self.assertEqual(last(word(1, 5), shows(1, a, b)), -7)

    def test_not_laid_is_told_ahead_of_not_a_stretch(self):
        for s in (0, 4, 20, 21, HIGHEST):
            for a, b in ((1, 3), (0, 0), (3, 1), (HIGHEST, HIGHEST)):
                self.assertEqual(last(*self.CALLS, shows(s, a, b)), -2, (s, a, b))

    def test_leaves_all_as_it_was(self):
        wrong = [shows(3, 1, 1), shows(3, 3, 1), shows(9, 1, 3), shows(1, HIGHEST, 0)]
        told = answered(*self.CALLS, *wrong, shows(3, 1, 3), row(1), row(2), row(3), cut(60))
        self.assertEqual(told[4:], [-7, -7, -2, -7, [2, 1, 3], [2, 1, 1, 4, 4], [2, 3, 3, 5, 5], [2, 1, 3, 4, 5], 5])


class AsItIsTest(unittest.TestCase):
    LAYING = (word(1, 5), word(2, 6), order(3, 1, 2), around(4, 3, 1))

    def test_of_the_text_as_it_is(self):
        told = answered(*self.LAYING, shows(4, 1, 2), text(5, 6), shows(4, 1, 2), text(9, 5, 9), shows(4, 1, 2),
                        add(6), shows(4, 2, 4), cut(3), shows(4, 2, 4), text(), shows(4, 2, 4))
        self.assertEqual(told[4:], [-7, 2, [2, 1, 2], 3, -7, 4, [2, 2, 4], 3, -7, 0, -7])

    def test_of_the_question_as_it_was_joined(self):
        anew = (word(1, 9), word(2, 9), word(3, 9), shows(4, 1, 3), shows(3, 2, 2), shows(3, 1, 3))
        self.assertEqual(answered(text(5, 9, 6), *self.LAYING, *anew)[-3:], [[2, 1, 3], [1, 2], -7])

    def test_both_at_once(self):
        anew = (text(5, 6), word(3, 9), word(1, 9), text(5, 9, 9, 6), shows(4, 1, 4), shows(3, 3, 3))
        self.assertEqual(answered(*self.LAYING, *anew)[-2:], [[2, 1, 4], [1, 3]])


class AgainstTheDocumentTest(unittest.TestCase):
    """Row, and shows of every pair of places, of each of the twelve kinds."""

    # Questions 1 to 3 are words, 4 to 7 are joined, 8 is joined of joined ones.
    PARTS = [
        word(1, 1), word(2, 2), word(3, 3), order(4, 1, 2), both(5, 2, 3), either(6, 3, 4), next_to(7, 1, 1),
        order(8, 5, 6),
    ]

    def hold(self, words, laying):
        plain = PlainLine()
        calls = [text(*words), *laying]
        for call in calls:
            plain.answer(call)
        s = laying[-1][1]
        pairs = [(a, b) for a in range(len(words) + 2) for b in range(a, len(words) + 2)]
        found = plain.stretches(plain.laid[s])
        asking = [row(s)] + [shows(s, *pair) for pair in pairs if pair in found]
        self.assertEqual(asked_behind(calls, asking), [plain.answer(call) for call in asking], calls)
        odd = [shows(s, *pair) for pair in pairs if pair not in found][:8]
        self.assertEqual(asked_behind(calls, odd), [-7] * len(odd), calls)
        return len(found)

    def texts(self, seed, many):
        source = random.Random(seed)
        return [[source.randint(1, 3) for _ in range(source.randint(0, 9))] for _ in range(many)]

    def test_words(self):
        for words in self.texts(1, 20):
            for w in (1, 2, 3, 4):
                self.hold(words, [word(9, w)])

    def test_joins(self):
        for name in JOINS:
            seen = 0
            for k, words in enumerate(self.texts(2, 24)):
                for i in range(1, 9):
                    for j in (i, (i + k) % 8 + 1, (i + k + 3) % 8 + 1):
                        seen += self.hold(words, [*self.PARTS, join(name, 9, i, j)])
            self.assertGreater(seen, 100, name)

    def test_bounds(self):
        for name in BOUNDS:
            seen = 0
            for words in self.texts(3, 24):
                for i in range(1, 9):
                    for n in (0, 1, 2, 4, 7, 60):
                        seen += self.hold(words, [*self.PARTS, bound(name, 9, i, n)])
            self.assertGreater(seen, 100, name)

    def test_several_deep(self):
        source = random.Random(4)
        seen = 0
        for words in self.texts(5, 250):
            laying = list(self.PARTS)
            for s in range(9, 16):
                if source.randrange(4) == 0:
                    laying.append(bound(source.choice(list(BOUNDS)), s, source.randrange(4, s), source.randint(2, 60)))
                else:
                    name = source.choice(list(JOINS))
                    laying.append(join(name, s, source.randrange(4, s), source.randrange(1, s)))
            seen += self.hold(words, laying)
        self.assertGreater(seen, 100)


if __name__ == "__main__":
    unittest.main()
