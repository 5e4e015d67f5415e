"""The very stretches of each join, held against the document's definitions."""

import itertools
import unittest

from nearstretches.callnumbers import APART, AROUND, BOTH, EITHER, INSIDE, NEXT, ORDER, OUTSIDE, WITHOUT
from nearstretches.stretches import bounded, joined, least, places_of_word
from tests.lines import BOUNDS, JOINS, bounded_by_the_words, by_the_words, lies_in
from tests.lines import least as plainly_least

PLACES = 5


def all_stretches(places):
    return [(a, b) for a in range(1, places + 1) for b in range(a, places + 1)]


def rows_of_least(places):
    """Every list of stretches that a question may have in a text of so many places."""
    rows = [[]]
    for one in all_stretches(places):
        rows += [row + [one] for row in rows if not any(lies_in(one, x) or lies_in(x, one) for x in row)]
    return rows


class LeastTest(unittest.TestCase):
    def test_every_few_stretches_of_four_places(self):
        every = all_stretches(4)
        for many in range(5):
            for some in itertools.combinations(every, many):
                self.assertEqual(least(list(some)), plainly_least(some))
                self.assertEqual(least(list(reversed(some))), plainly_least(some))

    def test_the_same_stretch_is_told_once(self):
        self.assertEqual(least([(2, 3), (2, 3), (1, 1), (2, 3)]), [(1, 1), (2, 3)])

    def test_places_of_a_word(self):
        self.assertEqual(places_of_word([4, 9, 4, 4], 4), [(1, 1), (3, 3), (4, 4)])
        self.assertEqual(places_of_word([4, 9, 4, 4], 5), [])
        self.assertEqual(places_of_word([], 4), [])


class JoinedTest(unittest.TestCase):
    def test_every_pair_of_rows(self):
        rows = rows_of_least(PLACES)
        self.assertEqual(len(rows), 132)
        for name, kind in JOINS.items():
            for left, right in itertools.product(rows, rows):
                told = joined(kind, list(left), list(right))
                if told != by_the_words(name, left, right):
                    self.fail(f"{name} of {left} and {right} has {told}")

    def test_either(self):
        self.assertEqual(joined(EITHER, [(1, 3), (5, 6)], [(2, 2), (4, 6), (5, 7)]), [(2, 2), (5, 6)])

    def test_order(self):
        self.assertEqual(joined(ORDER, [(1, 1), (2, 2), (4, 4)], [(2, 3), (4, 5)]), [(1, 3), (2, 5)])

    def test_both(self):
        self.assertEqual(joined(BOTH, [(1, 1), (5, 5)], [(3, 3), (6, 6)]), [(1, 3), (3, 5), (5, 6)])
        self.assertEqual(joined(BOTH, [(3, 3)], [(1, 4), (2, 5)]), [(1, 4), (2, 5)])

    def test_next(self):
        self.assertEqual(joined(NEXT, [(1, 1), (2, 3), (5, 6)], [(3, 3), (4, 6), (8, 8)]), [(2, 6)])

    def test_inside(self):
        self.assertEqual(joined(INSIDE, [(1, 2), (3, 3), (4, 6)], [(1, 2), (3, 5)]), [(1, 2), (3, 3)])

    def test_around(self):
        self.assertEqual(joined(AROUND, [(1, 2), (3, 5), (4, 6)], [(1, 2), (3, 4)]), [(1, 2), (3, 5)])

    def test_apart(self):
        self.assertEqual(joined(APART, [(1, 2), (3, 4), (6, 6), (7, 9)], [(2, 2), (5, 6)]), [(3, 4), (7, 9)])

    def test_without(self):
        self.assertEqual(joined(WITHOUT, [(1, 2), (3, 5), (4, 6)], [(1, 2), (3, 4)]), [(4, 6)])

    def test_outside(self):
        self.assertEqual(joined(OUTSIDE, [(1, 2), (3, 3), (4, 6)], [(1, 2), (3, 5)]), [(4, 6)])

    def test_what_is_joined_stays_as_it_was(self):
        for kind in JOINS.values():
            left, right = [(1, 2), (3, 5)], [(2, 2), (4, 6)]
            joined(kind, left, right)
            self.assertEqual((left, right), ([(1, 2), (3, 5)], [(2, 2), (4, 6)]))


class BoundedTest(unittest.TestCase):
    def test_every_row_and_bound(self):
        for name, kind in BOUNDS.items():
            for row, n in itertools.product(rows_of_least(PLACES), range(PLACES + 2)):
                handed = list(row)
                self.assertEqual(bounded(kind, handed, n), bounded_by_the_words(name, row, n), (name, row, n))
                self.assertEqual(handed, row)


if __name__ == "__main__":
    unittest.main()
