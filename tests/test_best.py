"""Tests of clearday.best: points 1, 7, 8 and 9."""

import itertools
import unittest

from clearday import best as module
from clearday.best import best, better, prices, shown
from clearday.books import balances, total
from clearday.cuts import even, left, worth
from clearday.errors import BadCut, BadPrices, NotBest, Uneven
from clearday.rings import order, ring
from helper import (
    MOST, NO_NUMBERS, assert_functions, assert_numbers, assert_refused, large_books, small_books,
)

COUNT = 3
DEBTS = [(0, 1, 5), (1, 2, 7), (2, 0, 3)]

# The short ring of debts 0 and 1 leaves no ring, but keeps the longer one of debts 0, 2 and 3 from being cut.
BLOCKED = [(0, 1, 1), (1, 0, 1), (1, 2, 1), (2, 0, 1)]

# Books with an even cut that leaves no ring and yet is not the best one, and the worth of the best one.
GIVEN_BACK = [
    (3, BLOCKED, [1, 1, 0, 0], 3),
    (3, [(0, 1, MOST), (1, 0, MOST), (1, 2, MOST), (2, 0, MOST)], [MOST, MOST, 0, 0], 3 * MOST),
    (3, [(0, 1, MOST), (1, 0, MOST), (1, 2, 1), (2, 0, MOST)], [MOST, MOST, 0, 0], 2 * MOST + 1),
    (4, [(0, 1, 5), (1, 0, 5), (1, 2, 9), (2, 3, 4), (3, 0, 9)], [5, 5, 0, 0, 0], 18),
    # Something of both rings of two houses has to be given back for the one of all houses.
    (5, [(0, 1, 2), (1, 0, 2), (2, 3, 2), (3, 2, 2), (1, 2, 2), (3, 4, 2), (4, 0, 2)], [2, 2, 2, 2, 0, 0, 0], 10),
    (6, [(0, 1, 3), (1, 0, 3), (2, 3, 3), (3, 2, 3), (1, 4, 3), (4, 2, 3), (3, 5, 3), (5, 0, 3)],
     [3, 3, 3, 3, 0, 0, 0, 0], 18),
    # The ring of three houses has to be given back in part for two rings of two.
    (3, [(0, 1, 1), (1, 2, 1), (2, 0, 1), (1, 0, 1), (2, 1, 1)], [1, 1, 1, 0, 0], 4),
    (20, [(k, (k + 1) % 20, MOST) for k in range(20)] + [(1, 0, MOST)], [MOST] + [0] * 19 + [MOST], 20 * MOST),
]


def even_cuts(count, debts):
    """Return all even cuts of a small book."""
    tried = itertools.product(*[range(amount + 1) for _, _, amount in debts])
    return [list(cut) for cut in tried if even(count, debts, list(cut))]


def show(debts, cut, tags):
    """Tell by the words of point 8 whether the prices show the cut."""
    for number, (debtor, creditor, amount) in enumerate(debts):
        lure = 1 + (tags[debtor] - tags[creditor])
        if lure < 0 and cut[number] != 0 or lure > 0 and cut[number] != amount:
            return False
    return True


def assert_best(case, count, debts, cut):
    """Fail unless this is a best cut, as some prices prove."""
    assert_numbers(case, cut, len(debts))
    case.assertIs(even(count, debts, cut), True)
    case.assertIs(ring(count, left(debts, cut)), None)
    case.assertIs(better(count, debts, cut), None)
    tags = prices(count, debts, cut)
    assert_numbers(case, tags, count)
    case.assertTrue(show(debts, cut, tags))
    case.assertIs(shown(count, debts, cut, tags), True)


def assert_not_best(case, count, debts, cut):
    """Fail unless there is a better cut than this, and no prices for it."""
    told = better(count, debts, cut)
    assert_numbers(case, told, len(debts))
    case.assertIs(even(count, debts, told), True)
    case.assertGreater(worth(debts, told), worth(debts, cut))
    assert_refused(case, NotBest, prices, count, debts, cut)


class InterfaceTest(unittest.TestCase):
    def test_names_and_arguments(self):
        wanted = {
            "best": ["count", "debts"],
            "better": ["count", "debts", "cut"],
            "prices": ["count", "debts", "cut"],
            "shown": ["count", "debts", "cut", "tags"],
        }
        assert_functions(self, module, wanted)


class BestTest(unittest.TestCase):
    def test_one_ring(self):
        self.assertEqual(best(COUNT, DEBTS), [3, 3, 3])
        self.assertEqual(best(2, [(0, 1, 5), (1, 0, 9)]), [5, 5])
        self.assertEqual(best(20, [(k, (k + 1) % 20, k + 7) for k in range(20)]), [7] * 20)

    def test_several_rings(self):
        self.assertEqual(best(4, [(0, 1, 5), (1, 0, 3), (2, 3, 1), (3, 2, 9)]), [3, 3, 1, 1])
        self.assertEqual(best(3, [(0, 1, 5), (1, 0, 3), (0, 2, 1), (2, 0, 9)]), [3, 3, 1, 1])
        self.assertEqual(best(3, [(0, 1, 9), (1, 0, 4), (1, 2, 3), (2, 0, 5)]), [7, 4, 3, 3])

    def test_a_longer_ring_is_worth_more_than_a_shorter_one(self):
        self.assertEqual(best(3, BLOCKED), [1, 0, 1, 1])
        self.assertEqual(best(3, [BLOCKED[1], BLOCKED[0], BLOCKED[3], BLOCKED[2]]), [0, 1, 1, 1])

    def test_two_short_rings_can_be_worth_more_than_a_longer_one(self):
        debts = [(0, 1, 1), (1, 2, 1), (2, 0, 1), (1, 0, 1), (2, 1, 1)]
        self.assertEqual(best(3, debts), [1, 1, 0, 1, 1])

    def test_nothing_to_cut(self):
        self.assertEqual(best(1, []), [])
        self.assertEqual(best(20, []), [])
        self.assertEqual(best(2, [(0, 1, 5)]), [0])
        self.assertEqual(best(3, [(0, 1, 5), (1, 2, 7), (0, 2, 3)]), [0, 0, 0])
        self.assertEqual(best(2, [(1, 0, MOST)] * 60), [0] * 60)

    def test_all_is_cut(self):
        debts = [(0, 1, MOST)] * 30 + [(1, 0, MOST)] * 30
        self.assertEqual(best(2, debts), [MOST] * 60)
        debts = [(a, b, MOST) for a, b in itertools.permutations(range(8), 2)]
        self.assertEqual(best(8, debts), [MOST] * 56)

    def test_several_debts_between_the_same_houses(self):
        debts = [(0, 1, 5), (0, 1, 7), (1, 0, 9), (1, 0, 1)]
        cut = best(2, debts)
        assert_best(self, 2, debts, cut)
        self.assertEqual(worth(debts, cut), 20)

    def test_something_cut_off_has_to_be_given_back(self):
        for count, debts, _, most in GIVEN_BACK:
            cut = best(count, debts)
            with self.subTest(count=count, debts=debts):
                assert_best(self, count, debts, cut)
                self.assertEqual(worth(debts, cut), most)

    def test_all_even_cuts_of_small_books(self):
        for count, debts in small_books():
            with self.subTest(count=count, debts=debts):
                cut = best(count, debts)
                assert_best(self, count, debts, cut)
                self.assertEqual(sum(cut), max(sum(other) for other in even_cuts(count, debts)))

    def test_large_books(self):
        for count, debts in large_books():
            with self.subTest(count=count, debts=debts):
                cut = best(count, debts)
                assert_best(self, count, debts, cut)
                rest = left(debts, cut)
                self.assertEqual(balances(count, rest), balances(count, debts))
                self.assertEqual(total(rest), total(debts) - sum(cut))
                self.assertIsNot(order(count, rest), None)
                self.assertEqual(sum(best(count, rest)), 0)

    def test_the_least_and_the_most_amount_in_one_book(self):
        # Changes by 1, back and forth over the debt of 1, could take thousands of millions of steps here.
        debts = [(0, 1, MOST), (0, 2, MOST), (1, 2, 1), (1, 3, MOST), (2, 3, MOST), (3, 0, MOST), (3, 0, MOST)]
        cut = best(4, debts)
        assert_best(self, 4, debts, cut)
        self.assertEqual(worth(debts, cut), 6 * MOST)
        self.assertEqual(best(2, [(0, 1, 1), (1, 0, MOST)]), [1, 1])

    def test_somewhat_beyond_the_limits(self):
        debts = [(k, (k + 1) % 24, 2 * MOST) for k in range(24)] * 3
        self.assertEqual(best(24, debts), [2 * MOST] * 72)
        self.assertEqual(best(0, []), [])
        self.assertIs(better(0, [], []), None)
        self.assertEqual(prices(0, [], []), [])
        self.assertIs(shown(0, [], [], []), True)


class BetterTest(unittest.TestCase):
    def test_a_ring_that_is_left(self):
        for cut in ([0, 0, 0], [1, 1, 1], [2, 2, 2]):
            assert_not_best(self, COUNT, DEBTS, cut)

    def test_none_where_the_cut_is_a_best_one(self):
        self.assertIs(better(COUNT, DEBTS, [3, 3, 3]), None)
        self.assertIs(better(1, [], []), None)
        self.assertIs(better(2, [(0, 1, 5)], [0]), None)
        self.assertIs(better(3, BLOCKED, [1, 0, 1, 1]), None)

    def test_each_of_several_best_cuts(self):
        debts = [(0, 1, 2), (0, 1, 2), (1, 0, 3)]
        for cut in ([1, 2, 3], [2, 1, 3]):
            assert_best(self, 2, debts, cut)
        for cut in ([1, 1, 2], [2, 0, 2], [0, 2, 2], [0, 0, 0]):
            assert_not_best(self, 2, debts, cut)

    def test_something_cut_off_has_to_be_given_back(self):
        for count, debts, cut, most in GIVEN_BACK:
            with self.subTest(count=count, debts=debts):
                self.assertIs(even(count, debts, cut), True)
                assert_not_best(self, count, debts, cut)
                self.assertLessEqual(worth(debts, better(count, debts, cut)), most)

    def test_less_by_one_than_the_best(self):
        debts = [(0, 1, MOST), (1, 0, MOST)]
        assert_not_best(self, 2, debts, [MOST - 1, MOST - 1])
        assert_best(self, 2, debts, [MOST, MOST])

    def test_all_even_cuts_of_small_books(self):
        for count, debts in small_books():
            cuts = even_cuts(count, debts)
            most = max(sum(cut) for cut in cuts)
            for cut in cuts:
                with self.subTest(count=count, debts=debts, cut=cut):
                    if sum(cut) == most:
                        assert_best(self, count, debts, cut)
                    else:
                        assert_not_best(self, count, debts, cut)

    def test_nothing_cut_off_large_books(self):
        for count, debts in large_books():
            if any(best(count, debts)):
                assert_not_best(self, count, debts, [0] * len(debts))


class PricesTest(unittest.TestCase):
    def test_prices_of_one_ring(self):
        # Nothing is left of debt 2 alone, so the lures of the other two are nought.
        first, second, third = prices(COUNT, DEBTS, [3, 3, 3])
        self.assertEqual((second - first, third - second), (1, 1))

    def test_one_number_for_each_house(self):
        for count in range(1, 21):
            told = prices(count, [], [])
            assert_numbers(self, told, count)

    def test_a_cut_of_nothing_where_there_is_no_ring(self):
        debts = [(k, k + 1, MOST) for k in range(19)]
        told = prices(20, debts, [0] * 19)
        for house in range(19):
            self.assertGreaterEqual(told[house + 1] - told[house], 1)

    def test_no_prices_show_a_cut_that_is_not_best(self):
        for cut in ([1, 1, 0, 0], [0, 0, 0, 0]):
            assert_refused(self, NotBest, prices, 3, BLOCKED, cut)
            for tags in itertools.product(range(-3, 4), repeat=3):
                self.assertIs(shown(3, BLOCKED, cut, list(tags)), False)


class ShownTest(unittest.TestCase):
    # Of one debt from house 0 to house 1 the lure is 1 more than the first price less the second.
    def test_a_lure_below_nought_asks_for_nothing(self):
        for tags in ([0, 2], [0, 3], [-1, 1], [-MOST, MOST], [5, 7], [-10 ** 30, 0]):
            self.assertIs(shown(2, [(0, 1, 5)], [0], tags), True)
            for off in (1, 3, 4, 5):
                self.assertIs(shown(2, [(0, 1, 5)], [off], tags), False)

    def test_a_lure_of_nought_asks_for_no_certain_amount(self):
        for tags in ([0, 1], [-1, 0], [41, 42], [-10 ** 30 - 1, -10 ** 30], [10 ** 30, 10 ** 30 + 1]):
            for off in range(6):
                self.assertIs(shown(2, [(0, 1, 5)], [off], tags), True)

    def test_a_lure_above_nought_asks_for_the_whole_amount(self):
        for tags in ([0, 0], [1, 1], [1, 0], [7, 5], [MOST, -MOST], [0, -10 ** 30], [-10 ** 30, -10 ** 30]):
            self.assertIs(shown(2, [(0, 1, 5)], [5], tags), True)
            for off in (0, 1, 2, 4):
                self.assertIs(shown(2, [(0, 1, 5)], [off], tags), False)

    def test_the_debtors_price_counts_up_and_the_creditors_down(self):
        self.assertIs(shown(2, [(1, 0, 5)], [5], [0, 2]), True)
        self.assertIs(shown(2, [(1, 0, 5)], [0], [0, 2]), False)
        self.assertIs(shown(2, [(1, 0, 5)], [0], [2, 0]), True)
        self.assertIs(shown(2, [(1, 0, 5)], [5], [2, 0]), False)

    def test_one_debt_that_goes_against_its_lure_is_enough(self):
        debts = [(0, 1, 5), (1, 2, 5), (2, 3, 5), (3, 0, 5)]
        tags = [0, 2, 3, 3]
        self.assertIs(shown(4, debts, [0, 0, 5, 5], tags), True)
        self.assertIs(shown(4, debts, [0, 4, 5, 5], tags), True)
        self.assertIs(shown(4, debts, [1, 4, 5, 5], tags), False)
        self.assertIs(shown(4, debts, [0, 4, 4, 5], tags), False)
        self.assertIs(shown(4, debts, [0, 4, 5, 4], tags), False)

    def test_uneven_cuts(self):
        self.assertIs(even(COUNT, DEBTS, [5, 7, 3]), False)
        self.assertIs(shown(COUNT, DEBTS, [5, 7, 3], [0, 0, 0]), True)
        self.assertIs(shown(COUNT, DEBTS, [5, 7, 2], [0, 0, 0]), False)
        self.assertIs(shown(COUNT, DEBTS, [0, 0, 3], [0, 2, 4]), True)
        self.assertIs(shown(COUNT, DEBTS, [0, 0, 0], [0, 2, 4]), False)

    def test_prices_far_from_nought_show_as_those_near_it_do(self):
        cut = best(COUNT, DEBTS)
        tags = prices(COUNT, DEBTS, cut)
        for more in (-10 ** 40, -MOST, -1, 1, MOST, 10 ** 40):
            moved = [tag + more for tag in tags]
            self.assertIs(shown(COUNT, DEBTS, cut, moved), True)
            self.assertIs(shown(COUNT, DEBTS, [2, 2, 2], moved), False)

    def test_a_book_without_debts(self):
        self.assertIs(shown(1, [], [], [0]), True)
        self.assertIs(shown(3, [], [], [5, -MOST, 10 ** 20]), True)

    def test_all_cuts_by_all_prices_near_nought(self):
        debts = [(0, 1, 2), (1, 0, 1), (1, 2, 2), (2, 0, 1)]
        both = []
        for cut in itertools.product(range(3), range(2), range(3), range(2)):
            for tags in itertools.product(range(-2, 3), repeat=3):
                told = shown(3, debts, list(cut), list(tags))
                self.assertIs(told, show(debts, cut, tags))
                both.append(told)
                if told and even(3, debts, list(cut)):
                    self.assertIs(better(3, debts, list(cut)), None)
        self.assertIn(True, both)
        self.assertIn(False, both)


class RefusalTest(unittest.TestCase):
    def refused(self, error, count, debts, cut):
        assert_refused(self, error, better, count, debts, cut)
        assert_refused(self, error, prices, count, debts, cut)

    def test_no_cut(self):
        cuts = [None, (), (3, 3, 3), "333", 3, True, {}, [], [3, 3], [3, 3, 3, 3], [6, 6, 3], [-1, -1, -1]]
        for place in range(3):
            cuts += [[3] * place + [bad] + [3] * (2 - place) for bad in NO_NUMBERS + [-1, 8, MOST, -MOST]]
        for cut in cuts:
            self.refused(BadCut, COUNT, DEBTS, cut)
            assert_refused(self, BadCut, shown, COUNT, DEBTS, cut, [0, 0, 0])
        self.refused(BadCut, 1, [], [0])
        assert_refused(self, BadCut, shown, 1, [], [0], [0])

    def test_uneven_cuts(self):
        for cut in ([1, 0, 0], [3, 3, 2], [3, 2, 3], [4, 3, 3], [5, 7, 3], [0, 7, 0]):
            self.refused(Uneven, COUNT, DEBTS, cut)
        self.refused(Uneven, 2, [(0, 1, MOST)], [MOST])

    def test_no_cut_comes_ahead_of_an_uneven_one(self):
        for cut in ([0, 0, 4], [6, 7, 3], [1, 0, -1], [3, 2, True], [1, 2], [1, 0, None]):
            self.refused(BadCut, COUNT, DEBTS, cut)

    def test_uneven_comes_ahead_of_not_best(self):
        # More could be cut round the ring, be the cut even or not.
        self.refused(Uneven, COUNT, DEBTS, [1, 2, 1])
        assert_refused(self, Uneven, prices, 3, BLOCKED, [1, 0, 0, 0])
        # Nothing could be gained any more, and yet the cut is uneven.
        self.refused(Uneven, COUNT, DEBTS, [3, 4, 3])

    def test_not_best(self):
        for cut in ([0, 0, 0], [1, 1, 1], [2, 2, 2]):
            assert_refused(self, NotBest, prices, COUNT, DEBTS, cut)
        for count, debts, cut, _ in GIVEN_BACK:
            assert_refused(self, NotBest, prices, count, debts, cut)

    def test_no_prices(self):
        wrong = [None, (), (0, 0, 0), "000", b"000", 0, 3, True, False, {}, {0: 0, 1: 0, 2: 0}]
        wrong += [[], [0], [0, 0], [0, 0, 0, 0], [0] * 20]
        for place in range(3):
            wrong += [[0] * place + [bad] + [0] * (2 - place) for bad in NO_NUMBERS]
        for tags in wrong:
            for cut in ([3, 3, 3], [0, 0, 0], [5, 7, 3]):
                assert_refused(self, BadPrices, shown, COUNT, DEBTS, cut, tags)

    def test_as_many_prices_as_houses_not_as_debts(self):
        assert_refused(self, BadPrices, shown, 20, DEBTS, [3, 3, 3], [0, 1, 2])
        assert_refused(self, BadPrices, shown, 1, [], [], [])
        assert_refused(self, BadPrices, shown, 1, [], [], [True])
        self.assertIs(shown(20, DEBTS, [3, 3, 3], [0, 1, 2] + [0] * 17), True)

    def test_no_cut_comes_ahead_of_no_prices(self):
        for cut in (None, (3, 3, 3), [], [3, 3, 4], [0, 0, True]):
            for tags in (None, [], (0, 0, 0), [0, 0, True], "000"):
                assert_refused(self, BadCut, shown, COUNT, DEBTS, cut, tags)


class NothingChangesTest(unittest.TestCase):
    def test_what_is_handed_in_stays(self):
        debts = list(BLOCKED)
        cut = [1, 1, 0, 0]
        tags = [0, 1, 2]
        best(3, debts)
        better(3, debts, cut)
        with self.assertRaises(NotBest):
            prices(3, debts, cut)
        shown(3, debts, cut, tags)
        self.assertEqual(debts, [(0, 1, 1), (1, 0, 1), (1, 2, 1), (2, 0, 1)])
        self.assertEqual(cut, [1, 1, 0, 0])
        self.assertEqual(tags, [0, 1, 2])
        cut = [1, 0, 1, 1]
        better(3, debts, cut)
        prices(3, debts, cut)
        self.assertEqual(cut, [1, 0, 1, 1])

    def test_what_is_told_is_the_askers_own(self):
        cut = [1, 1, 0, 0]
        final = [1, 0, 1, 1]
        asked = [lambda: best(3, BLOCKED), lambda: better(3, BLOCKED, cut), lambda: prices(3, BLOCKED, final)]
        for ask in asked:
            first = ask()
            kept = list(first)
            again = ask()
            first[0] = 99
            first.append(7)
            self.assertEqual(again, kept)
            self.assertEqual(ask(), kept)
        self.assertEqual(cut, [1, 1, 0, 0])
        self.assertEqual(final, [1, 0, 1, 1])

    def test_what_is_told_stays_when_the_book_is_changed(self):
        debts = list(DEBTS)
        cut = best(COUNT, debts)
        tags = prices(COUNT, debts, cut)
        kept = list(tags)
        debts.clear()
        self.assertEqual(cut, [3, 3, 3])
        cut.clear()
        self.assertEqual(tags, kept)


if __name__ == "__main__":
    unittest.main()
