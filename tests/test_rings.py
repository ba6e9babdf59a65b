"""Tests of clearday.rings: points 1, 4 and 6."""

import itertools
import unittest

from clearday import rings as module
from clearday.best import best
from clearday.cuts import even, left
from clearday.errors import BadCut, Uneven
from clearday.rings import order, ring, rings
from helper import (
    MOST, NO_NUMBERS, assert_functions, assert_numbers, assert_refused, assert_ring, drawn_book, large_books,
    small_books,
)

COUNT = 3
DEBTS = [(0, 1, 5), (1, 2, 7), (2, 0, 3)]

# Books with a ring, and the houses that can stand in one.
WITH_RING = [
    (2, [(0, 1, 5), (1, 0, 3)], {0, 1}),
    (2, [(1, 0, 5), (0, 1, 3)], {0, 1}),
    (2, [(0, 1, 1), (0, 1, MOST), (1, 0, 1), (0, 1, 2)], {0, 1}),
    (3, [(0, 1, 5), (1, 2, 7), (2, 0, 3)], {0, 1, 2}),
    (3, [(2, 0, 5), (0, 1, 7), (1, 2, 3)], {0, 1, 2}),
    (3, [(0, 2, 5), (1, 0, 7), (2, 1, 3)], {0, 1, 2}),
    (5, [(0, 1, 1), (1, 2, 1), (2, 3, 1), (3, 1, 1), (3, 4, 1)], {1, 2, 3}),
    (5, [(4, 3, 1), (3, 2, 1), (2, 1, 1), (1, 3, 1), (1, 0, 1)], {1, 2, 3}),
    (6, [(0, 2, 1), (2, 4, 1), (4, 5, 1), (5, 4, 1), (0, 1, 1), (1, 3, 1)], {4, 5}),
    (3, [(0, 1, 1), (1, 0, 1), (0, 2, 1), (2, 0, 1)], {0, 1, 2}),
    (20, [(18, 19, MOST), (19, 18, 1)], {18, 19}),
    (20, [(k, (k + 1) % 20, k + 1) for k in range(20)], set(range(20))),
    (20, [((k + 1) % 20, k, k + 1) for k in range(20)], set(range(20))),
    (20, [(0, k, 1) for k in range(1, 20)] + [(19, 0, 1)], {0, 19}),
]

WITHOUT_RING = [
    (1, []),
    (2, []),
    (20, []),
    (2, [(0, 1, 5)]),
    (2, [(1, 0, 5)]),
    (2, [(1, 0, 5), (1, 0, 5), (1, 0, MOST)]),
    (3, [(0, 1, 5), (1, 2, 7), (0, 2, 3)]),
    (3, [(2, 1, 5), (1, 0, 7), (2, 0, 3)]),
    (3, [(2, 0, 5), (0, 1, 7), (2, 0, 5)]),
    (4, [(0, 1, 1), (0, 2, 1), (1, 3, 1), (2, 3, 1)]),
    (4, [(3, 1, 1), (3, 2, 1), (1, 0, 1), (2, 0, 1)]),
    (20, [(k + 1, k, 1) for k in range(19)]),
    (20, [(k, k + 1, MOST) for k in range(19)]),
    (12, [(a, b, 1) for a, b in itertools.combinations(range(11), 2)]),
    (2, [(0, 1, 1)] * 60),
]


def assert_order(case, count, debts, houses):
    """Fail unless all houses stand so that each debt leads from one to a later one."""
    assert_numbers(case, houses, count)
    case.assertEqual(sorted(houses), list(range(count)))
    for debtor, creditor, _ in debts:
        case.assertLess(houses.index(debtor), houses.index(creditor))


def assert_pairs(case, debts, cut, pairs):
    """Fail unless the pairs of an amount and a ring come to the cut."""
    case.assertIs(type(pairs), list)
    case.assertLessEqual(len(pairs), len(debts))
    sums = [0] * len(debts)
    for pair in pairs:
        case.assertIs(type(pair), tuple)
        amount, numbers = pair
        case.assertIs(type(amount), int)
        case.assertGreaterEqual(amount, 1)
        assert_ring(case, debts, numbers)
        for number in numbers:
            sums[number] += amount
    case.assertEqual(sums, cut)


class InterfaceTest(unittest.TestCase):
    def test_names_and_arguments(self):
        wanted = {"ring": ["count", "debts"], "order": ["count", "debts"], "rings": ["count", "debts", "cut"]}
        assert_functions(self, module, wanted)


class RingAndOrderTest(unittest.TestCase):
    def test_books_with_a_ring(self):
        for count, debts, houses in WITH_RING:
            with self.subTest(count=count, debts=debts):
                told = ring(count, debts)
                assert_ring(self, debts, told)
                self.assertLessEqual({debts[number][0] for number in told}, houses)
                self.assertIs(order(count, debts), None)

    def test_books_without_a_ring(self):
        for count, debts in WITHOUT_RING:
            with self.subTest(count=count, debts=debts):
                self.assertIs(ring(count, debts), None)
                assert_order(self, count, debts, order(count, debts))

    def test_orders_that_leave_no_choice(self):
        self.assertEqual(order(1, []), [0])
        self.assertEqual(order(2, [(1, 0, 5)]), [1, 0])
        self.assertEqual(order(4, [(2, 0, 1), (0, 3, 1), (3, 1, 1)]), [2, 0, 3, 1])

    def test_the_only_ring_in_its_order(self):
        debts = [(3, 2, 9), (1, 3, 9), (0, 3, 9), (2, 0, 9), (1, 0, 9)]
        told = ring(4, debts)
        at = told.index(0)
        self.assertEqual(told[at:] + told[:at], [0, 3, 2])

    def test_a_ring_has_each_debt_once_though_others_are_alike(self):
        debts = [(0, 1, 5), (0, 1, 5), (1, 0, 5), (1, 0, 5)]
        told = ring(2, debts)
        assert_ring(self, debts, told)
        self.assertEqual(len(told), 2)

    def test_any_order_of_the_debts(self):
        ringed = [(0, 1, 1), (1, 2, 2), (2, 3, 3), (3, 1, 4), (0, 3, 5)]
        ringless = [(0, 1, 1), (1, 2, 2), (2, 3, 3), (1, 3, 4), (0, 3, 5)]
        for turned in itertools.permutations(range(5)):
            debts = [ringed[number] for number in turned]
            with self.subTest(debts=debts):
                assert_ring(self, debts, ring(4, debts))
                self.assertEqual(len(ring(4, debts)), 3)
                self.assertIs(order(4, debts), None)
            debts = [ringless[number] for number in turned]
            with self.subTest(debts=debts):
                self.assertIs(ring(4, debts), None)
                self.assertEqual(order(4, debts), [0, 1, 2, 3])

    def test_just_one_of_them_is_none(self):
        found = []
        for seed in range(300):
            count = 2 + seed % 19
            debts = drawn_book(seed, count, 1 + seed % 25, [1, 5, MOST])
            turn = ring(count, debts)
            houses = order(count, debts)
            with self.subTest(count=count, debts=debts):
                self.assertEqual(turn is None, houses is not None)
                if turn is None:
                    assert_order(self, count, debts, houses)
                else:
                    assert_ring(self, debts, turn)
            found.append(turn is None)
        self.assertIn(True, found)
        self.assertIn(False, found)

    def test_what_lacks_one_debt_of_its_only_ring_has_an_order(self):
        debts = [(k, (k + 1) % 20, MOST) for k in range(20)]
        for place in range(20):
            rest = debts[:place] + debts[place + 1:]
            with self.subTest(place=place):
                self.assertIs(ring(20, rest), None)
                self.assertEqual(order(20, rest), [(place + 1 + k) % 20 for k in range(20)])

    def test_somewhat_beyond_the_limits(self):
        debts = [(k, (k + 1) % 24, 2 * MOST) for k in range(24)] * 3
        self.assertEqual(len(ring(24, debts)), 24)
        self.assertIs(order(24, debts), None)
        self.assertEqual(order(24, debts[:23]), list(range(24)))
        self.assertIs(ring(0, []), None)
        self.assertEqual(order(0, []), [])


class RingsTest(unittest.TestCase):
    def test_nothing(self):
        self.assertEqual(rings(1, [], []), [])
        self.assertEqual(rings(20, [], []), [])
        self.assertEqual(rings(2, [(0, 1, 5)], [0]), [])
        self.assertEqual(rings(COUNT, DEBTS, [0, 0, 0]), [])

    def test_one_ring(self):
        for off in (1, 2, 3):
            told = rings(COUNT, DEBTS, [off, off, off])
            assert_pairs(self, DEBTS, [off, off, off], told)
            self.assertEqual(len(told), 1)
            self.assertEqual(told[0][0], off)

    def test_one_ring_of_many_houses(self):
        debts = [(k, (k + 1) % 20, MOST) for k in range(20)]
        told = rings(20, debts, [MOST] * 20)
        assert_pairs(self, debts, [MOST] * 20, told)
        self.assertEqual(len(told), 1)

    def test_rings_with_nothing_in_common(self):
        debts = [(0, 1, 5), (1, 0, 5), (2, 3, 7), (3, 2, 7)]
        for cut in ([5, 5, 7, 7], [1, 1, 2, 2], [0, 0, 3, 3]):
            assert_pairs(self, debts, cut, rings(4, debts, cut))

    def test_rings_that_share_a_house(self):
        debts = [(0, 1, 5), (1, 0, 5), (0, 2, 7), (2, 0, 7), (0, 3, 1), (3, 0, 1)]
        for cut in ([5, 5, 7, 7, 1, 1], [4, 4, 4, 4, 0, 0], [1, 1, 7, 7, 1, 1]):
            assert_pairs(self, debts, cut, rings(4, debts, cut))

    def test_rings_that_share_debts(self):
        debts = [(0, 1, 9), (1, 2, 4), (2, 0, 6), (1, 3, 5), (3, 2, 2), (3, 0, 3)]
        for cut in ([9, 4, 6, 5, 2, 3], [5, 3, 4, 2, 1, 1], [2, 0, 2, 2, 2, 0], [3, 0, 0, 3, 0, 3]):
            with self.subTest(cut=cut):
                self.assertIs(even(4, debts, cut), True)
                assert_pairs(self, debts, cut, rings(4, debts, cut))

    def test_several_debts_between_the_same_houses(self):
        debts = [(0, 1, 5), (0, 1, 7), (1, 0, 9), (1, 0, 1)]
        for cut in ([3, 5, 7, 1], [5, 4, 9, 0], [0, 1, 0, 1], [5, 5, 9, 1]):
            assert_pairs(self, debts, cut, rings(2, debts, cut))

    def test_the_least_and_the_most_amount(self):
        debts = [(0, 1, MOST), (1, 0, 1), (1, 2, MOST - 1), (2, 0, MOST)]
        assert_pairs(self, debts, [MOST, 1, MOST - 1, MOST - 1], rings(3, debts, [MOST, 1, MOST - 1, MOST - 1]))

    def test_sixty_debts_round_two_houses(self):
        debts = [(0, 1, MOST)] * 30 + [(1, 0, MOST)] * 30
        assert_pairs(self, debts, [MOST] * 60, rings(2, debts, [MOST] * 60))
        cut = list(range(30)) + list(range(30))
        assert_pairs(self, debts, cut, rings(2, debts, cut))

    def test_all_even_cuts_of_a_book(self):
        debts = [(0, 1, 2), (1, 2, 1), (2, 0, 2), (1, 0, 2), (0, 2, 1), (0, 1, 1)]
        for cut in itertools.product(range(3), range(2), range(3), range(3), range(2), range(2)):
            cut = list(cut)
            with self.subTest(cut=cut):
                if even(3, debts, cut):
                    assert_pairs(self, debts, cut, rings(3, debts, cut))
                else:
                    with self.assertRaises(Uneven):
                        rings(3, debts, cut)

    def test_cuts_of_large_books(self):
        for count, debts in large_books():
            cut = best(count, debts)
            with self.subTest(count=count, debts=debts):
                assert_pairs(self, debts, cut, rings(count, debts, cut))

    def test_somewhat_beyond_the_limits(self):
        debts = [(k, (k + 1) % 24, 2 * MOST) for k in range(24)] * 3
        cut = [2 * MOST] * 72
        assert_pairs(self, debts, cut, rings(24, debts, cut))
        self.assertEqual(rings(0, [], []), [])


class RefusalTest(unittest.TestCase):
    def test_no_list_of_as_many_numbers(self):
        for cut in (None, (), (1, 1, 1), "111", 3, True, {}, [], [1, 1], [1, 1, 1, 1], [0] * 60):
            assert_refused(self, BadCut, rings, COUNT, DEBTS, cut)
        assert_refused(self, BadCut, rings, 1, [], [0])

    def test_no_numbers_within_their_bounds(self):
        for place in range(3):
            for bad in NO_NUMBERS + [-1, DEBTS[place][2] + 1, MOST + 1, -MOST]:
                cut = [1, 1, 1]
                cut[place] = bad
                assert_refused(self, BadCut, rings, COUNT, DEBTS, cut)

    def test_no_cut_though_as_much_goes_in_as_out(self):
        assert_refused(self, BadCut, rings, COUNT, DEBTS, [4, 4, 4])
        assert_refused(self, BadCut, rings, COUNT, DEBTS, [-1, -1, -1])
        assert_refused(self, BadCut, rings, COUNT, DEBTS, [True, True, True])
        assert_refused(self, BadCut, rings, COUNT, DEBTS, [False, False, False])

    def test_uneven_cuts(self):
        for cut in ([1, 0, 0], [0, 1, 0], [0, 0, 1], [3, 3, 2], [3, 2, 3], [2, 3, 3], [5, 7, 3], [5, 5, 3]):
            assert_refused(self, Uneven, rings, COUNT, DEBTS, cut)
        assert_refused(self, Uneven, rings, 2, [(0, 1, MOST)], [MOST])
        assert_refused(self, Uneven, rings, 4, [(0, 1, 5), (1, 0, 5), (2, 3, 5)], [5, 5, 1])

    def test_no_cut_comes_ahead_of_an_uneven_one(self):
        for cut in ([0, 5, 4], [6, 0, 0], [5, 7, True], [1, 0, -1], [1, 2]):
            assert_refused(self, BadCut, rings, COUNT, DEBTS, cut)


class NothingChangesTest(unittest.TestCase):
    def test_what_is_handed_in_stays(self):
        debts = list(DEBTS)
        cut = [3, 3, 3]
        ring(COUNT, debts)
        order(COUNT, debts)
        rings(COUNT, debts, cut)
        with self.assertRaises(Uneven):
            rings(COUNT, debts, [3, 3, 2])
        self.assertEqual(debts, DEBTS)
        self.assertEqual(cut, [3, 3, 3])

    def test_what_is_told_is_the_askers_own(self):
        for asked in (lambda: ring(COUNT, DEBTS), lambda: order(COUNT, DEBTS[:2])):
            first = asked()
            kept = list(first)
            again = asked()
            first.clear()
            self.assertEqual(again, kept)
            self.assertEqual(asked(), kept)

    def test_the_rings_within_pairs_are_the_askers_own(self):
        debts = [(0, 1, 9), (1, 0, 5), (1, 2, 4), (2, 0, 4)]
        cut = [9, 5, 4, 4]
        first = rings(3, debts, cut)
        again = rings(3, debts, cut)
        for _, numbers in first:
            numbers.append(0)
        first[0][1].clear()
        first.clear()
        assert_pairs(self, debts, cut, again)
        assert_pairs(self, debts, cut, rings(3, debts, cut))
        self.assertEqual(cut, [9, 5, 4, 4])
        cut.clear()
        assert_pairs(self, debts, [9, 5, 4, 4], again)

    def test_what_is_left_by_all_rings_has_none(self):
        for count, debts in small_books():
            cut = best(count, debts)
            self.assertIs(ring(count, left(debts, cut)), None)


if __name__ == "__main__":
    unittest.main()
