"""Tests of clearday.books: points 1, 2 and 3."""

import copy
import unittest

from clearday import books
from clearday.books import balances, checked, total
from clearday.errors import BadCount, BadDebt
from helper import MOST, NO_COUNTS, assert_functions, assert_refused

NO_LISTS = [
    (), ((0, 1, 5),), None, "", "debts", b"debts", 0, 1, 7, True, False, {}, {(0, 1, 5): 1}, set(),
]

# Each is no debt of a book of three houses.
NO_DEBTS = [
    [0, 1, 5], [], (), (0,), (0, 1), (0, 1, 5, 0), (0, 1, 5, 5, 5), ((0, 1, 5),),
    None, 0, 5, True, False, "", "015", b"015", {0: 1, 1: 2, 2: 5},
    (-1, 1, 5), (1, -1, 5), (-3, 1, 5), (3, 1, 5), (1, 3, 5), (4, 1, 5), (1, 20, 5), (99, 1, 5),
    (True, 0, 5), (True, 2, 5), (0, True, 5), (False, 1, 5), (1, False, 5), (False, True, 5),
    ("0", 1, 5), (0, "1", 5), ("", 1, 5), (None, 1, 5), (0, None, 5), ([0], 1, 5), (0, (1,), 5), (0.0, 1, 5),
    (0, 0, 5), (1, 1, 5), (2, 2, 5), (0, 0, 0),
    (0, 1, 0), (0, 1, -1), (0, 1, -5), (0, 1, MOST + 1), (0, 1, 2 * MOST), (0, 1, 10 ** 30), (0, 1, -MOST),
    (0, 1, True), (0, 1, False), (0, 1, None), (0, 1, "5"), (0, 1, ""), (0, 1, [5]), (0, 1, (5,)), (0, 1, 5.0),
]


class InterfaceTest(unittest.TestCase):
    def test_names_and_arguments(self):
        wanted = {"checked": ["count", "debts"], "balances": ["count", "debts"], "total": ["debts"]}
        assert_functions(self, books, wanted)


class CheckedTest(unittest.TestCase):
    def test_tells_the_same_debts(self):
        debts = [(0, 1, 5), (1, 2, 7), (2, 0, 3)]
        told = checked(3, debts)
        self.assertIs(type(told), list)
        self.assertEqual(told, [(0, 1, 5), (1, 2, 7), (2, 0, 3)])
        for debt in told:
            self.assertIs(type(debt), tuple)

    def test_keeps_order_and_debts_that_are_alike(self):
        debts = [(2, 1, 9), (0, 1, 5), (1, 0, 5), (0, 1, 5), (0, 1, 4), (1, 0, 1)]
        self.assertEqual(checked(3, debts), debts)

    def test_books_without_debts(self):
        for count in range(1, 21):
            with self.subTest(count=count):
                self.assertEqual(checked(count, []), [])

    def test_houses_up_to_the_count(self):
        for count in range(2, 21):
            last = count - 1
            debts = [(0, last, 1), (last, 0, 2)]
            with self.subTest(count=count):
                self.assertEqual(checked(count, debts), debts)
                assert_refused(self, BadDebt, checked, count, [(0, count, 1)])
                assert_refused(self, BadDebt, checked, count, [(count, 0, 1)])

    def test_a_single_house_can_owe_nobody(self):
        for debt in [(0, 0, 1), (0, 1, 1), (1, 0, 1), (0, -1, 1)]:
            assert_refused(self, BadDebt, checked, 1, [debt])

    def test_the_least_and_the_most_amount(self):
        debts = [(0, 1, 1), (1, 0, MOST), (0, 1, MOST - 1)]
        self.assertEqual(checked(2, debts), debts)

    def test_sixty_debts_and_one_more(self):
        debts = [(k % 4, (k + 1) % 4, k + 1) for k in range(60)]
        self.assertEqual(checked(4, debts), debts)
        assert_refused(self, BadDebt, checked, 4, debts + [(0, 1, 5)])
        assert_refused(self, BadDebt, checked, 4, [(0, 1, 5)] * 61)
        assert_refused(self, BadDebt, checked, 4, [(0, 1, 5)] * 200)

    def test_no_count_whatever_the_debts_are(self):
        lists = [[], [(0, 1, 5)], [(0, 1, 5)] * 61, [(0, 0, 0)], [None]] + NO_LISTS
        for count in NO_COUNTS:
            for debts in lists:
                assert_refused(self, BadCount, checked, count, debts)

    def test_no_list(self):
        for count in (1, 3, 20):
            for debts in NO_LISTS:
                assert_refused(self, BadDebt, checked, count, debts)

    def test_no_debt_at_any_place(self):
        good = [(0, 1, 5), (1, 2, 7), (2, 0, 3)]
        for bad in NO_DEBTS:
            assert_refused(self, BadDebt, checked, 3, [bad])
            for place in range(len(good) + 1):
                assert_refused(self, BadDebt, checked, 3, good[:place] + [bad] + good[place:])

    def test_no_debt_at_the_last_of_sixty_places(self):
        assert_refused(self, BadDebt, checked, 3, [(0, 1, 5)] * 59 + [(0, 1, 0)])

    def test_what_is_handed_in_stays(self):
        debts = [(0, 1, 5), (1, 2, 7)]
        checked(3, debts)
        self.assertEqual(debts, [(0, 1, 5), (1, 2, 7)])
        refused = [(0, 1, 5), [1, 2, 7], None]
        before = copy.deepcopy(refused)
        assert_refused(self, BadDebt, checked, 3, refused)
        self.assertEqual(refused, before)

    def test_what_is_told_is_the_askers_own(self):
        debts = [(0, 1, 5), (1, 2, 7)]
        told = checked(3, debts)
        again = checked(3, debts)
        told.append((2, 0, 1))
        told[0] = (2, 1, 8)
        self.assertEqual(debts, [(0, 1, 5), (1, 2, 7)])
        self.assertEqual(again, [(0, 1, 5), (1, 2, 7)])
        self.assertEqual(checked(3, debts), [(0, 1, 5), (1, 2, 7)])
        debts.clear()
        self.assertEqual(again, [(0, 1, 5), (1, 2, 7)])
        empty = []
        self.assertIsNot(checked(3, empty), empty)


class BalancesTest(unittest.TestCase):
    def test_ordinary_books(self):
        self.assertEqual(balances(2, [(0, 1, 5)]), [-5, 5])
        self.assertEqual(balances(3, [(0, 1, 5), (1, 2, 7), (2, 0, 3)]), [-2, -2, 4])
        self.assertEqual(balances(4, [(3, 0, 10), (2, 0, 1), (0, 1, 4)]), [7, 4, -1, -10])

    def test_a_ring_of_one_amount_gives_noughts(self):
        self.assertEqual(balances(3, [(0, 1, 6), (1, 2, 6), (2, 0, 6)]), [0, 0, 0])

    def test_one_house_without_debts(self):
        self.assertEqual(balances(1, []), [0])

    def test_one_number_for_each_house(self):
        for count in range(1, 21):
            with self.subTest(count=count):
                self.assertEqual(balances(count, []), [0] * count)
        self.assertEqual(balances(20, [(0, 19, 3)]), [-3] + [0] * 18 + [3])

    def test_several_debts_between_the_same_houses(self):
        self.assertEqual(balances(2, [(0, 1, 5), (0, 1, 7), (0, 1, 5)]), [-17, 17])
        self.assertEqual(balances(2, [(0, 1, 5), (1, 0, 7), (0, 1, 1)]), [1, -1])
        self.assertEqual(balances(3, [(2, 0, 5), (0, 2, 5)]), [0, 0, 0])

    def test_the_most_that_a_book_can_hold(self):
        self.assertEqual(balances(2, [(0, 1, MOST)] * 60), [-60 * MOST, 60 * MOST])
        self.assertEqual(balances(2, [(0, 1, 1)] * 60), [-60, 60])

    def test_balances_come_to_nought(self):
        debts = [(k % 7, (k * 3 + 1) % 7, k * k + 1) for k in range(60)]
        debts = [debt for debt in debts if debt[0] != debt[1]]
        told = balances(7, debts)
        self.assertEqual(sum(told), 0)
        for house in range(7):
            owed = sum(amount for _, creditor, amount in debts if creditor == house)
            owes = sum(amount for debtor, _, amount in debts if debtor == house)
            self.assertEqual(told[house], owed - owes)

    def test_tells_a_list_of_whole_numbers(self):
        told = balances(2, [(0, 1, 5)])
        self.assertIs(type(told), list)
        for number in told:
            self.assertIs(type(number), int)

    def test_nothing_is_changed_or_kept(self):
        debts = [(0, 1, 5), (1, 2, 7)]
        told = balances(3, debts)
        self.assertEqual(debts, [(0, 1, 5), (1, 2, 7)])
        told[0] = 99
        told.append(1)
        self.assertEqual(balances(3, debts), [-5, -2, 7])


class TotalTest(unittest.TestCase):
    def test_ordinary_books(self):
        self.assertEqual(total([(0, 1, 5)]), 5)
        self.assertEqual(total([(0, 1, 5), (1, 2, 7), (2, 0, 3)]), 15)

    def test_no_debts(self):
        told = total([])
        self.assertEqual(told, 0)
        self.assertIs(type(told), int)

    def test_several_debts_between_the_same_houses(self):
        self.assertEqual(total([(0, 1, 5), (0, 1, 5), (1, 0, 5), (1, 0, 2)]), 17)

    def test_the_most_that_a_book_can_hold(self):
        self.assertEqual(total([(0, 1, MOST)] * 60), 60 * MOST)
        self.assertEqual(total([(0, 1, 1)] * 60), 60)

    def test_nothing_is_changed(self):
        debts = [(0, 1, 5), (1, 2, 7)]
        total(debts)
        self.assertEqual(debts, [(0, 1, 5), (1, 2, 7)])


if __name__ == "__main__":
    unittest.main()
