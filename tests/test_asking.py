"""What is asked of a question: row, at, worth, best, alike and fits, and promise 3."""

import unittest

from tests.lines import (
    HIGHEST, add, alike, answered, asked_behind, at, best, both, cut, either, first, fits, last, order, row, shows,
    text, within, without, word, worth,
)

# Question 3 has the stretches 1 to 3, 4 to 5, 7 to 9 and 10 to 11: of widths 3, 2, 3 and 2.
FOUR = (text(5, 9, 6, 5, 6, 9, 5, 9, 6, 5, 6, 9), word(1, 5), word(2, 6), order(3, 1, 2))
NO_WORDS = (word(1, 5), word(2, 6), order(3, 1, 2))


def every_ask(s):
    """Each call that asks something of the question s alone."""
    return [row(s), at(s, 1), worth(s), shows(s, 1, 1), best(s, 1), alike(s, s), fits(s, 1, 60)]


class RowTest(unittest.TestCase):
    def test_how_many_and_each_in_order(self):
        self.assertEqual(answered(*FOUR, row(1), row(2), row(3))[4:], [
            [4, 1, 1, 4, 4, 7, 7, 10, 10], [4, 3, 3, 5, 5, 9, 9, 11, 11], [4, 1, 3, 4, 5, 7, 9, 10, 11],
        ])

    def test_no_stretches(self):
        self.assertEqual(last(*FOUR, word(4, 7), row(4)), 0)
        self.assertEqual(last(*NO_WORDS, row(3)), 0)

    def test_as_many_as_there_can_be(self):
        told = last(text(*[5] * 60), word(1, 5), row(1))
        self.assertEqual(told, [60] + [place for k in range(1, 61) for place in (k, k)])

    def test_only_least_ones(self):
        self.assertEqual(last(text(5, 5, 6, 6), word(1, 5), word(2, 6), order(3, 1, 2), row(3)), [1, 2, 3])
        self.assertEqual(last(*FOUR, either(4, 3, 1), row(4)), [4, 1, 1, 4, 4, 7, 7, 10, 10])

    def test_asking_changes_nothing(self):
        asking = [each for each in every_ask(3) for _ in range(2)]
        told = answered(*FOUR, row(3), *asking, row(3))
        self.assertEqual(told[4], told[-1])
        self.assertEqual(told[5:-1:2], told[6:-1:2])


class AtTest(unittest.TestCase):
    def test_at_a_begin_and_behind_it(self):
        for p, told in (
            (0, [1, 1, 3]), (1, [1, 1, 3]), (2, [1, 4, 5]), (3, [1, 4, 5]), (4, [1, 4, 5]), (5, [1, 7, 9]),
            (7, [1, 7, 9]), (8, [1, 10, 11]), (10, [1, 10, 11]), (11, 0), (12, 0), (13, 0), (61, 0), (HIGHEST, 0),
        ):
            self.assertEqual(last(*FOUR, at(3, p)), told, p)

    def test_ahead_of_the_first_begin(self):
        self.assertEqual(answered(text(9, 9, 5), word(1, 5), at(1, 0), at(1, 1), at(1, 2), at(1, 3), at(1, 4))[2:],
                         [[1, 3, 3]] * 4 + [0])

    def test_goes_by_the_begin_though_others_reach_over_the_place(self):
        calls = (text(5, 5, 9, 6, 6), word(1, 5), word(2, 6), both(3, 1, 2))
        self.assertEqual(answered(*calls, row(3), at(3, 2), at(3, 3))[4:], [[1, 2, 4], [1, 2, 4], 0])

    def test_no_stretches(self):
        for p in (0, 1, HIGHEST):
            self.assertEqual(last(*NO_WORDS, at(3, p)), 0, p)
            self.assertEqual(last(*FOUR, word(4, 7), at(4, p)), 0, p)


class WorthTest(unittest.TestCase):
    def test_sum(self):
        self.assertEqual(answered(*FOUR, worth(1), worth(3))[4:], [4 * 5040, 1680 + 2520 + 1680 + 2520])

    def test_each_width(self):
        for width in range(2, 61):
            calls = (text(5, *[7] * (width - 2), 6), word(1, 5), word(2, 6), order(3, 1, 2))
            self.assertEqual(last(*calls, worth(3)), 5040 // width, width)

    def test_each_is_rounded_down_by_itself(self):
        eleven = [5] + [7] * 9 + [6]
        calls = (text(*eleven * 3), word(1, 5), word(2, 6), order(3, 1, 2))
        self.assertEqual(last(*calls, row(3)), [3, 1, 11, 12, 22, 23, 33])
        # 5040 is 11 times 458 and 2 more; three times 5040 would be 11 times 1374 and 6 more.
        self.assertEqual(last(*calls, worth(3)), 1374)
        thirteen = [5] + [7] * 11 + [6]
        calls = (text(*thirteen * 3), word(1, 5), word(2, 6), order(3, 1, 2))
        # 5040 is 13 times 387 and 9 more; rounded down once for all it would be 1163.
        self.assertEqual(last(*calls, worth(3)), 3 * 387)

    def test_no_stretches(self):
        self.assertEqual(last(*NO_WORDS, worth(3)), 0)
        self.assertEqual(last(*FOUR, word(4, 7), worth(4)), 0)

    def test_the_most(self):
        self.assertEqual(last(text(*[5] * 60), word(1, 5), worth(1)), 60 * 5040)


class BestTest(unittest.TestCase):
    def test_the_narrowest_first_and_of_as_narrow_ones_the_first(self):
        self.assertEqual(last(*FOUR, best(3, 4)), [4, 4, 5, 10, 11, 1, 3, 7, 9])

    def test_fewer_than_there_are(self):
        self.assertEqual(answered(*FOUR, best(3, 1), best(3, 2), best(3, 3))[4:], [
            [1, 4, 5], [2, 4, 5, 10, 11], [3, 4, 5, 10, 11, 1, 3],
        ])

    def test_none(self):
        self.assertEqual(last(*FOUR, best(3, 0)), 0)

    def test_more_than_there_are(self):
        for n in (5, 60, 61, HIGHEST):
            self.assertEqual(last(*FOUR, best(3, n)), [4, 4, 5, 10, 11, 1, 3, 7, 9], n)

    def test_the_first_may_be_the_widest(self):
        calls = (text(5, 9, 9, 6, 5, 9, 6, 5, 6), word(1, 5), word(2, 6), order(3, 1, 2))
        self.assertEqual(answered(*calls, best(3, 1), best(3, 2), best(3, 3))[4:], [
            [1, 8, 9], [2, 8, 9, 5, 7], [3, 8, 9, 5, 7, 1, 4],
        ])

    def test_all_as_narrow(self):
        self.assertEqual(last(text(5, 6, 5, 5), word(1, 5), best(1, 2)), [2, 1, 1, 3, 3])

    def test_no_stretches(self):
        for n in (0, 1, HIGHEST):
            self.assertEqual(last(*NO_WORDS, best(3, n)), 0, n)


class AlikeTest(unittest.TestCase):
    def test_same_stretches(self):
        self.assertEqual(last(*FOUR, both(4, 3, 3), alike(3, 4)), 1)
        self.assertEqual(last(*FOUR, either(4, 1, 2), either(5, 2, 1), alike(4, 5)), 1)

    def test_other_stretches(self):
        self.assertEqual(answered(*FOUR, alike(1, 2), alike(1, 3), alike(3, 1))[4:], [0, 0, 0])

    def test_the_first_ones_of_the_other(self):
        calls = FOUR + (first(4, 3, 10), within(5, 3, 2))
        self.assertEqual(answered(*calls, alike(3, 4), alike(4, 3), alike(3, 5), alike(5, 3))[6:], [0] * 4)

    def test_as_many_with_the_same_begins_or_the_same_ends(self):
        calls = (text(5, 6, 7), word(1, 5), word(2, 6), word(3, 7), order(4, 1, 2), order(5, 1, 3), order(6, 2, 3))
        self.assertEqual(answered(*calls, alike(4, 5), alike(5, 6), alike(1, 4), alike(3, 6))[7:], [0] * 4)

    def test_with_itself(self):
        self.assertEqual(answered(*FOUR, alike(1, 1), alike(3, 3))[4:], [1, 1])
        self.assertEqual(last(*NO_WORDS, alike(3, 3)), 1)

    def test_two_without_stretches(self):
        self.assertEqual(last(*NO_WORDS, alike(1, 3)), 1)
        self.assertEqual(last(*FOUR, word(4, 7), without(5, 3, 1), alike(4, 5)), 1)
        self.assertEqual(answered(*FOUR, word(4, 7), alike(4, 3), alike(3, 4))[5:], [0, 0])

    def test_in_the_text_as_it_is(self):
        calls = (text(5, 6), word(1, 5), word(2, 6), alike(1, 2), cut(0), alike(1, 2), add(6), alike(1, 2))
        self.assertEqual(answered(*calls)[3:], [0, 0, 1, 1, 0])

    def test_i_or_j_is_not_laid(self):
        for other in (0, 4, 20, 21, HIGHEST):
            told = answered(*FOUR, alike(3, other), alike(other, 3), alike(other, other))[4:]
            self.assertEqual(told, [-2, -2, -2], other)


class FitsTest(unittest.TestCase):
    def test_just_and_wider(self):
        for a, b in ((4, 5), (3, 5), (4, 6), (0, 12), (1, 3), (0, 3), (10, 11), (10, HIGHEST), (0, HIGHEST), (8, 60)):
            self.assertEqual(last(*FOUR, fits(3, a, b)), 1, (a, b))

    def test_too_narrow(self):
        for a, b in ((5, 5), (4, 4), (2, 4), (5, 8), (8, 10), (11, 12), (5, 6), (11, HIGHEST), (0, 2), (0, 0), (0, 1)):
            self.assertEqual(last(*FOUR, fits(3, a, b)), 0, (a, b))

    def test_a_above_b(self):
        for a, b in ((5, 4), (11, 1), (12, 0), (HIGHEST, 0), (10, 9), (3, 1), (1, 0)):
            self.assertEqual(last(*FOUR, fits(3, a, b)), 0, (a, b))
            self.assertEqual(last(*FOUR, fits(1, a, b)), 0, (a, b))

    def test_places_that_the_text_has_not(self):
        for a, b in ((13, 14), (13, 13), (61, 70), (HIGHEST, HIGHEST), (12, HIGHEST)):
            self.assertEqual(last(*FOUR, fits(3, a, b)), 0, (a, b))

    def test_all_pairs_of_places(self):
        stretches = ((1, 3), (4, 5), (7, 9), (10, 11))
        pairs = [(a, b) for a in range(14) for b in range(14)]
        told = asked_behind(FOUR, [fits(3, a, b) for a, b in pairs])
        self.assertEqual(told, [int(any(a <= c and d <= b for c, d in stretches)) for a, b in pairs])

    def test_no_stretches(self):
        for a, b in ((0, 0), (1, 60), (0, HIGHEST), (2, 1)):
            self.assertEqual(last(*NO_WORDS, fits(3, a, b)), 0, (a, b))


class NotLaidTest(unittest.TestCase):
    def test_each_call(self):
        for s in (0, 4, 20, 21, HIGHEST):
            self.assertEqual(answered(*FOUR, *every_ask(s))[4:], [-2] * 7, s)

    def test_before_any_question_is_laid(self):
        for s in (0, 1, 20, 21, HIGHEST):
            self.assertEqual(answered(*every_ask(s)), [-2] * 7, s)

    def test_whatever_else_is_wrong(self):
        for number in (0, 61, HIGHEST):
            asking = [at(4, number), best(4, number), fits(4, number, 0), fits(4, 0, number)]
            self.assertEqual(answered(*FOUR, *asking)[4:], [-2] * 4, number)

    def test_a_word_or_a_place_is_not_a_question(self):
        self.assertEqual(answered(text(7, 7), word(1, 7), *every_ask(2), *every_ask(7))[2:], [-2] * 14)

    def test_a_refused_laying_lays_nothing(self):
        for wrong in (word(4, 31), either(4, 1, 9), within(4, 1, 61), first(4, 9, 1), order(4, 4, 4)):
            self.assertEqual(answered(*FOUR, wrong, *every_ask(4))[5:], [-2] * 7, wrong)

    def test_leaves_all_as_it_was(self):
        wrong = every_ask(0) + every_ask(21)
        told = answered(*FOUR, *every_ask(3), *wrong, *every_ask(3), cut(60))
        self.assertEqual(told[4:11], told[-8:-1])
        self.assertEqual(told[-1], 12)
        self.assertEqual(told[11:25], [-2] * 14)


class AskedThenTest(unittest.TestCase):
    def test_of_the_text_as_it_is(self):
        laying = (word(1, 5), word(2, 6), order(3, 1, 2))
        asking = [row(3), at(3, 1), worth(3), best(3, 9), fits(3, 1, 3), alike(3, 1)]
        for changes, told in (
            ([text(5, 6)], [[1, 1, 2], [1, 1, 2], 2520, [1, 1, 2], 1, 0]),
            ([text(5, 6), text(9, 5, 9, 6)], [[1, 2, 4], [1, 2, 4], 1680, [1, 2, 4], 0, 0]),
            ([text(5, 9, 6), add(5, 6)], [[2, 1, 3, 4, 5], [1, 1, 3], 4200, [2, 4, 5, 1, 3], 1, 0]),
            ([text(5), add(6)], [[1, 1, 2], [1, 1, 2], 2520, [1, 1, 2], 1, 0]),
            ([text(5, 6, 5, 6), cut(3)], [[1, 1, 2], [1, 1, 2], 2520, [1, 1, 2], 1, 0]),
            ([text(5, 6), cut(1)], [0, 0, 0, 0, 0, 0]),
            ([text(5, 6), cut(0)], [0, 0, 0, 0, 0, 1]),
            ([text(5, 6), text()], [0, 0, 0, 0, 0, 1]),
            ([text(5, 6), text(9, 31)], [[1, 1, 2], [1, 1, 2], 2520, [1, 1, 2], 1, 0]),
            ([text(5, 6), add(5, 6, 0)], [[1, 1, 2], [1, 1, 2], 2520, [1, 1, 2], 1, 0]),
            ([text(5, 6), add(*[6] * 59)], [[1, 1, 2], [1, 1, 2], 2520, [1, 1, 2], 1, 0]),
        ):
            self.assertEqual(answered(*laying, *changes, *asking)[-6:], told, changes)

    def test_of_the_question_as_it_was_joined(self):
        laying = (text(5, 9, 6), word(1, 5), word(2, 6), order(3, 1, 2), within(4, 3, 3), first(5, 3, 3))
        anew = (word(1, 9), word(2, 9), row(3), word(3, 9))
        asking = (row(4), at(5, 1), worth(4), best(5, 1), fits(4, 1, 3), alike(4, 5), alike(3, 4), row(3))
        self.assertEqual(answered(*laying, *anew, *asking)[-10:], [
            [1, 1, 3], 1, [1, 1, 3], [1, 1, 3], 1680, [1, 1, 3], 1, 1, 0, [1, 2, 2],
        ])

    def test_both_at_once(self):
        laying = (word(1, 5), word(2, 6), order(3, 1, 2), within(4, 3, 2), word(3, 9), word(1, 9))
        self.assertEqual(answered(*laying, text(5, 6, 9), row(4), row(3), cut(2), row(4), row(3))[-5:],
                         [[1, 1, 2], [1, 3, 3], 2, [1, 1, 2], 0])


if __name__ == "__main__":
    unittest.main()
