"""Tests of clearday.cuts: points 1 and 5."""

import itertools
import unittest

from clearday import cuts
from clearday.books import balances, total
from clearday.cuts import even, left, worth
from clearday.errors import BadCut
from helper import MOST, NO_NUMBERS, assert_functions, assert_refused

COUNT = 3
DEBTS = [(0, 1, 5), (1, 2, 7), (2, 0, 3)]

NO_LISTS = [None, (), (0, 0, 0), "", "000", b"000", 0, 3, True, False, {}, {0: 0, 1: 0, 2: 0}, {0}]


def refused(case, count, debts, cut):
    """Fail unless all three functions refuse the cut."""
    assert_refused(case, BadCut, worth, debts, cut)
    assert_refused(case, BadCut, left, debts, cut)
    assert_refused(case, BadCut, even, count, debts, cut)


class InterfaceTest(unittest.TestCase):
    def test_names_and_arguments(self):
        wanted = {"worth": ["debts", "cut"], "left": ["debts", "cut"], "even": ["count", "debts", "cut"]}
        assert_functions(self, cuts, wanted)


class RefusalTest(unittest.TestCase):
    def test_no_list(self):
        for cut in NO_LISTS:
            refused(self, COUNT, DEBTS, cut)

    def test_no_list_for_a_book_without_debts(self):
        for cut in NO_LISTS:
            refused(self, 1, [], cut)

    def test_too_short_and_too_long(self):
        for cut in ([], [0], [0, 0], [0, 0, 0, 0], [0] * 60, [3, 3, 3, 3]):
            refused(self, COUNT, DEBTS, cut)
        refused(self, 1, [], [0])
        refused(self, 2, [(0, 1, 5)] * 60, [0] * 59)
        refused(self, 2, [(0, 1, 5)] * 60, [0] * 61)

    def test_what_is_no_number_at_any_place(self):
        for place in range(3):
            for bad in NO_NUMBERS:
                cut = [0, 0, 0]
                cut[place] = bad
                refused(self, COUNT, DEBTS, cut)

    def test_numbers_beyond_their_bounds_at_any_place(self):
        for place in range(3):
            amount = DEBTS[place][2]
            for bad in (-1, -amount, amount + 1, 2 * amount, MOST + 1, -MOST):
                cut = [0, 0, 0]
                cut[place] = bad
                refused(self, COUNT, DEBTS, cut)

    def test_each_number_has_the_bound_of_its_own_debt(self):
        refused(self, COUNT, DEBTS, [6, 7, 3])
        refused(self, COUNT, DEBTS, [7, 5, 3])
        refused(self, COUNT, DEBTS, [3, 5, 7])
        refused(self, COUNT, DEBTS, [5, 7, 4])
        refused(self, 2, [(0, 1, MOST)], [MOST + 1])
        refused(self, 2, [(0, 1, 1)], [2])

    def test_even_and_uneven_cuts_alike(self):
        refused(self, COUNT, DEBTS, [4, 4, 4])
        refused(self, COUNT, DEBTS, [-1, -1, -1])
        refused(self, COUNT, DEBTS, [True, True, True])
        refused(self, COUNT, DEBTS, [False, False, False])

    def test_what_is_refused_stays(self):
        debts = list(DEBTS)
        cut = [0, 8, [1]]
        refused(self, COUNT, debts, cut)
        self.assertEqual(cut, [0, 8, [1]])
        self.assertEqual(debts, DEBTS)


class WorthTest(unittest.TestCase):
    def test_ordinary_cuts(self):
        self.assertEqual(worth(DEBTS, [1, 2, 3]), 6)
        self.assertEqual(worth(DEBTS, [5, 0, 0]), 5)
        self.assertEqual(worth(DEBTS, [0, 7, 1]), 8)
        self.assertEqual(worth(DEBTS, [3, 3, 3]), 9)

    def test_cuts_of_nothing_and_of_whole_amounts(self):
        self.assertEqual(worth(DEBTS, [0, 0, 0]), 0)
        self.assertEqual(worth(DEBTS, [5, 7, 3]), 15)

    def test_no_debts(self):
        told = worth([], [])
        self.assertEqual(told, 0)
        self.assertIs(type(told), int)

    def test_the_most_that_a_book_can_hold(self):
        self.assertEqual(worth([(0, 1, MOST)] * 60, [MOST] * 60), 60 * MOST)
        self.assertEqual(worth([(0, 1, 1)] * 60, [1] * 60), 60)


class LeftTest(unittest.TestCase):
    def test_ordinary_cuts(self):
        self.assertEqual(left(DEBTS, [1, 2, 1]), [(0, 1, 4), (1, 2, 5), (2, 0, 2)])
        self.assertEqual(left(DEBTS, [4, 6, 2]), [(0, 1, 1), (1, 2, 1), (2, 0, 1)])

    def test_a_cut_of_nothing_leaves_all(self):
        self.assertEqual(left(DEBTS, [0, 0, 0]), DEBTS)

    def test_a_cut_of_everything_leaves_nothing(self):
        self.assertEqual(left(DEBTS, [5, 7, 3]), [])
        self.assertEqual(left([], []), [])

    def test_debts_of_which_nothing_is_left_are_left_out(self):
        self.assertEqual(left(DEBTS, [5, 0, 0]), [(1, 2, 7), (2, 0, 3)])
        self.assertEqual(left(DEBTS, [0, 7, 0]), [(0, 1, 5), (2, 0, 3)])
        self.assertEqual(left(DEBTS, [0, 0, 3]), [(0, 1, 5), (1, 2, 7)])
        self.assertEqual(left(DEBTS, [3, 3, 3]), [(0, 1, 2), (1, 2, 4)])

    def test_order_and_debts_that_are_alike(self):
        debts = [(2, 1, 9), (0, 1, 5), (1, 0, 5), (0, 1, 5), (0, 1, 4), (1, 0, 1)]
        self.assertEqual(left(debts, [0, 0, 1, 0, 4, 1]), [(2, 1, 9), (0, 1, 5), (1, 0, 4), (0, 1, 5)])
        self.assertEqual(left(debts, [9, 3, 0, 5, 0, 0]), [(0, 1, 2), (1, 0, 5), (0, 1, 4), (1, 0, 1)])

    def test_the_least_and_the_most_amount(self):
        debts = [(0, 1, MOST), (1, 0, 1), (1, 0, MOST)]
        self.assertEqual(left(debts, [MOST - 1, 1, 1]), [(0, 1, 1), (1, 0, MOST - 1)])
        self.assertEqual(left(debts, [MOST, 0, MOST]), [(1, 0, 1)])

    def test_sixty_debts(self):
        debts = [(k % 4, (k + 1) % 4, k + 1) for k in range(60)]
        cut = [debt[2] if k % 2 == 0 else 1 for k, debt in enumerate(debts)]
        wanted = [(k % 4, (k + 1) % 4, k) for k in range(1, 60, 2)]
        self.assertEqual(left(debts, cut), wanted)

    def test_tells_a_list_of_tuples_of_the_askers_own(self):
        debts = list(DEBTS)
        cut = [0, 0, 0]
        told = left(debts, cut)
        again = left(debts, cut)
        self.assertIs(type(told), list)
        for debt in told:
            self.assertIs(type(debt), tuple)
        told.append((0, 2, 1))
        told[0] = (0, 2, 8)
        self.assertEqual(debts, DEBTS)
        self.assertEqual(cut, [0, 0, 0])
        self.assertEqual(again, DEBTS)
        self.assertEqual(left(debts, cut), DEBTS)
        debts.clear()
        cut.clear()
        self.assertEqual(again, DEBTS)


class EvenTest(unittest.TestCase):
    def test_even_cuts(self):
        for off in range(4):
            self.assertIs(even(COUNT, DEBTS, [off, off, off]), True)

    def test_uneven_by_one(self):
        for cut in ([3, 3, 2], [3, 2, 3], [2, 3, 3], [4, 3, 3], [3, 4, 3], [1, 0, 0], [0, 1, 0], [0, 0, 1]):
            with self.subTest(cut=cut):
                self.assertIs(even(COUNT, DEBTS, cut), False)

    def test_uneven_by_much(self):
        self.assertIs(even(COUNT, DEBTS, [5, 7, 3]), False)
        self.assertIs(even(2, [(0, 1, MOST)], [MOST]), False)

    def test_equal_amounts_that_go_the_same_way_are_uneven(self):
        self.assertIs(even(3, [(0, 1, 5), (0, 2, 5)], [2, 2]), False)
        self.assertIs(even(3, [(1, 0, 5), (2, 0, 5)], [2, 2]), False)
        self.assertIs(even(4, [(0, 1, 5), (2, 3, 5)], [2, 2]), False)

    def test_a_chain_is_uneven_at_its_ends(self):
        self.assertIs(even(3, [(0, 1, 5), (1, 2, 5)], [2, 2]), False)
        self.assertIs(even(20, [(k, k + 1, 5) for k in range(19)], [1] * 19), False)

    def test_a_ring_of_all_houses(self):
        debts = [(k, (k + 1) % 20, k + 1) for k in range(20)]
        self.assertIs(even(20, debts, [1] * 20), True)
        self.assertIs(even(20, debts, [1] * 19 + [2]), False)

    def test_nothing_is_cut(self):
        self.assertIs(even(1, [], []), True)
        self.assertIs(even(20, [], []), True)
        self.assertIs(even(2, [(0, 1, 5)], [0]), True)

    def test_several_debts_between_the_same_houses(self):
        debts = [(0, 1, 5), (0, 1, 7), (1, 0, 9), (1, 0, 1)]
        self.assertIs(even(2, debts, [3, 5, 7, 1]), True)
        self.assertIs(even(2, debts, [5, 4, 9, 0]), True)
        self.assertIs(even(2, debts, [5, 5, 9, 0]), False)
        self.assertIs(even(2, debts, [5, 7, 0, 0]), False)

    def test_rings_that_meet_in_a_house(self):
        debts = [(0, 1, 5), (1, 0, 5), (0, 2, 7), (2, 0, 7)]
        self.assertIs(even(3, debts, [5, 5, 7, 7]), True)
        self.assertIs(even(3, debts, [4, 5, 7, 7]), False)
        self.assertIs(even(3, debts, [4, 5, 7, 6]), False)

    def test_whole_amounts_at_the_bounds(self):
        self.assertIs(even(2, [(0, 1, MOST), (1, 0, MOST)], [MOST, MOST]), True)
        self.assertIs(even(2, [(0, 1, MOST), (1, 0, MOST)], [MOST, MOST - 1]), False)
        self.assertIs(even(2, [(0, 1, 1), (1, 0, 1)], [1, 1]), True)
        self.assertIs(even(2, [(0, 1, MOST)] * 30 + [(1, 0, MOST)] * 30, [MOST] * 60), True)

    def test_even_just_where_each_balance_stays(self):
        debts = [(0, 1, 2), (1, 2, 1), (2, 0, 2), (1, 0, 1), (0, 2, 1)]
        both = []
        for cut in itertools.product(range(3), range(2), range(3), range(2), range(2)):
            cut = list(cut)
            rest = left(debts, cut)
            kept = balances(3, rest) == balances(3, debts)
            with self.subTest(cut=cut):
                self.assertIs(even(3, debts, cut), kept)
                self.assertEqual(total(rest) + worth(debts, cut), total(debts))
            both.append(kept)
        self.assertIn(True, both)
        self.assertIn(False, both)


class NothingChangesTest(unittest.TestCase):
    def test_what_is_handed_in_stays(self):
        debts = list(DEBTS)
        cut = [3, 7, 1]
        worth(debts, cut)
        left(debts, cut)
        even(COUNT, debts, cut)
        self.assertEqual(debts, [(0, 1, 5), (1, 2, 7), (2, 0, 3)])
        self.assertEqual(cut, [3, 7, 1])

    def test_asking_again_tells_the_same(self):
        for _ in range(2):
            self.assertEqual(worth(DEBTS, [3, 3, 3]), 9)
            self.assertEqual(left(DEBTS, [3, 3, 3]), [(0, 1, 2), (1, 2, 4)])
            self.assertIs(even(COUNT, DEBTS, [3, 3, 3]), True)


if __name__ == "__main__":
    unittest.main()
