"""Tests of clearday.day: points 1, 3 and 10."""

import inspect
import unittest

from clearday import day as module
from clearday.best import best
from clearday.books import balances, total
from clearday.day import Day
from clearday.errors import BadAmount, BadCount, BadDebt, NoDebt, NoHouse
from clearday.rings import ring
from helper import MOST, NO_COUNTS, NO_NUMBERS, assert_refused, drawn_book, large_books

METHODS = {
    "owe": ["self", "debtor", "creditor", "amount"],
    "rest": ["self", "number"],
    "pay": ["self", "number", "amount"],
    "balance": ["self", "house"],
    "standing": ["self"],
    "clear": ["self"],
}


def day_of(count, debts):
    """Return a day to which these debts have come."""
    day = Day(count)
    for debt in debts:
        day.owe(*debt)
    return day


def rests(day):
    """Return the debts that stand, without their numbers."""
    return [row[1:] for row in day.standing()]


def all_balances(day, count):
    """Return the balances of all houses of the day."""
    return [day.balance(house) for house in range(count)]


class InterfaceTest(unittest.TestCase):
    def test_the_class_and_its_methods(self):
        self.assertEqual(Day.__module__, "clearday.day")
        self.assertIs(module.Day, Day)
        self.assertEqual(list(inspect.signature(Day).parameters), ["count"])
        for name, arguments in METHODS.items():
            with self.subTest(name=name):
                self.assertIn(name, vars(Day))
                self.assertEqual(list(inspect.signature(vars(Day)[name]).parameters), arguments)


class OweTest(unittest.TestCase):
    def test_debts_are_numbered_as_they_come(self):
        day = Day(3)
        self.assertEqual(day.owe(0, 1, 5), 0)
        self.assertEqual(day.owe(1, 2, 7), 1)
        self.assertEqual(day.owe(0, 1, 5), 2)
        self.assertEqual(day.owe(1, 0, 5), 3)

    def test_numbers_go_on_behind_payments_and_clearings(self):
        day = day_of(2, [(0, 1, 5), (1, 0, 5)])
        day.pay(0, 5)
        self.assertEqual(day.owe(0, 1, 4), 2)
        day.clear()
        self.assertEqual(day.owe(1, 0, 9), 3)
        self.assertEqual(day.standing(), [(1, 1, 0, 1), (3, 1, 0, 9)])

    def test_sixty_debts(self):
        day = Day(20)
        for number in range(60):
            self.assertEqual(day.owe(number % 20, (number + 1) % 20, MOST - number), number)
        self.assertEqual(day.rest(0), MOST)
        self.assertEqual(day.rest(59), MOST - 59)
        self.assertEqual(len(day.standing()), 60)

    def test_the_least_and_the_most(self):
        day = Day(20)
        day.owe(0, 19, 1)
        day.owe(19, 0, MOST)
        self.assertEqual(day.standing(), [(0, 0, 19, 1), (1, 19, 0, MOST)])


class PayTest(unittest.TestCase):
    def test_in_parts_and_in_whole(self):
        day = day_of(3, [(0, 1, 5), (1, 2, 7)])
        self.assertEqual(day.pay(0, 2), 3)
        self.assertEqual(day.rest(0), 3)
        self.assertEqual(day.pay(0, 1), 2)
        self.assertEqual(day.pay(0, 2), 0)
        self.assertEqual(day.rest(0), 0)
        self.assertEqual(day.rest(1), 7)
        self.assertEqual(day.pay(1, 7), 0)
        self.assertEqual(day.standing(), [])

    def test_the_most(self):
        day = day_of(2, [(0, 1, MOST)])
        self.assertEqual(day.pay(0, MOST - 1), 1)
        self.assertEqual(day.pay(0, 1), 0)

    def test_what_a_clearing_left(self):
        day = day_of(2, [(0, 1, 5), (1, 0, 8)])
        day.clear()
        assert_refused(self, BadAmount, day.pay, 0, 1)
        assert_refused(self, BadAmount, day.pay, 1, 4)
        self.assertEqual(day.pay(1, 3), 0)


class RestAndStandingTest(unittest.TestCase):
    def test_a_new_day(self):
        for count in range(1, 21):
            day = Day(count)
            self.assertEqual(day.standing(), [])
            self.assertEqual(day.clear(), [])
            self.assertEqual(all_balances(day, count), [0] * count)

    def test_all_that_stands_in_its_order(self):
        day = day_of(4, [(3, 2, 9), (0, 1, 5), (1, 0, 5), (0, 1, 5)])
        self.assertEqual(day.standing(), [(0, 3, 2, 9), (1, 0, 1, 5), (2, 1, 0, 5), (3, 0, 1, 5)])
        day.pay(1, 5)
        day.pay(0, 8)
        self.assertEqual(day.standing(), [(0, 3, 2, 1), (2, 1, 0, 5), (3, 0, 1, 5)])
        self.assertEqual([day.rest(number) for number in range(4)], [1, 0, 5, 5])
        day.pay(3, 1)
        self.assertEqual(day.standing(), [(0, 3, 2, 1), (2, 1, 0, 5), (3, 0, 1, 4)])

    def test_tells_a_list_of_tuples(self):
        day = day_of(2, [(0, 1, 5), (1, 0, 5)])
        for told in (day.standing(), day.clear()):
            self.assertIs(type(told), list)
            for row in told:
                self.assertIs(type(row), tuple)


class BalanceTest(unittest.TestCase):
    def test_by_what_is_left_of_all_debts(self):
        day = day_of(3, [(0, 1, 5), (1, 2, 7), (2, 0, 3)])
        self.assertEqual(all_balances(day, 3), [-2, -2, 4])
        day.pay(1, 4)
        self.assertEqual(all_balances(day, 3), [-2, 2, 0])
        day.pay(0, 5)
        self.assertEqual(all_balances(day, 3), [3, -3, 0])
        day.owe(2, 1, MOST)
        self.assertEqual(all_balances(day, 3), [3, MOST - 3, -MOST])

    def test_the_most_that_a_day_can_hold(self):
        day = day_of(2, [(0, 1, MOST)] * 60)
        self.assertEqual(all_balances(day, 2), [-60 * MOST, 60 * MOST])

    def test_a_clearing_changes_none(self):
        for count, debts in large_books():
            day = day_of(count, debts)
            before = all_balances(day, count)
            self.assertEqual(before, balances(count, debts))
            day.clear()
            self.assertEqual(all_balances(day, count), before)


class ClearTest(unittest.TestCase):
    def test_one_ring(self):
        day = day_of(3, [(0, 1, 5), (1, 2, 7), (2, 0, 3)])
        self.assertEqual(day.clear(), [(0, 3), (1, 3), (2, 3)])
        self.assertEqual(day.standing(), [(0, 0, 1, 2), (1, 1, 2, 4)])
        self.assertEqual(day.rest(2), 0)

    def test_debts_of_which_nothing_is_cut_are_not_told(self):
        day = day_of(4, [(3, 0, 9), (0, 1, 5), (1, 3, 2), (1, 0, 4), (2, 3, 8)])
        day.pay(0, 9)
        self.assertEqual(day.clear(), [(1, 4), (3, 4)])
        self.assertEqual(day.standing(), [(1, 0, 1, 1), (2, 1, 3, 2), (4, 2, 3, 8)])

    def test_without_a_ring(self):
        day = day_of(3, [(0, 1, 5), (1, 2, 7), (0, 2, 3)])
        before = day.standing()
        self.assertEqual(day.clear(), [])
        self.assertEqual(day.standing(), before)

    def test_twice_running(self):
        for count, debts in large_books():
            day = day_of(count, debts)
            day.clear()
            before = day.standing()
            self.assertEqual(day.clear(), [])
            self.assertEqual(day.standing(), before)

    def test_only_what_is_left_is_cut(self):
        day = day_of(2, [(0, 1, 9), (1, 0, 9)])
        day.pay(0, 3)
        self.assertEqual(day.clear(), [(0, 6), (1, 6)])
        self.assertEqual(day.standing(), [(1, 1, 0, 3)])

    def test_a_ring_of_which_a_debt_is_paid_is_none(self):
        day = day_of(2, [(0, 1, 9), (1, 0, 9)])
        day.pay(1, 9)
        self.assertEqual(day.clear(), [])
        self.assertEqual(day.standing(), [(0, 0, 1, 9)])

    def test_going_on_behind_a_clearing(self):
        day = day_of(3, [(0, 1, 5), (1, 2, 7), (2, 0, 3)])
        day.clear()
        self.assertEqual(day.owe(2, 1, 9), 3)
        self.assertEqual(day.clear(), [(1, 4), (3, 4)])
        self.assertEqual(day.standing(), [(0, 0, 1, 2), (3, 2, 1, 5)])
        self.assertEqual(day.pay(3, 2), 3)
        self.assertEqual(day.owe(1, 0, 1), 4)
        self.assertEqual(day.clear(), [(0, 1), (4, 1)])
        self.assertEqual(day.standing(), [(0, 0, 1, 1), (3, 2, 1, 3)])
        self.assertEqual([day.rest(number) for number in range(5)], [1, 0, 0, 3, 0])

    def test_the_best_cut_though_a_short_ring_is_in_its_way(self):
        day = day_of(3, [(0, 1, 5), (1, 0, 5), (1, 2, 5), (2, 0, 5)])
        self.assertEqual(day.clear(), [(0, 5), (2, 5), (3, 5)])
        self.assertEqual(day.standing(), [(1, 1, 0, 5)])

    def test_as_much_is_cut_as_by_the_best_cut_of_all_that_stands(self):
        for count, debts in large_books():
            day = day_of(count, debts)
            for number in range(0, len(debts), 7):
                day.pay(number, (debts[number][2] + 1) // 2)
            before = day.standing()
            amounts = {number: rest for number, _, _, rest in before}
            wanted = sum(best(count, rests(day)))
            told = day.clear()
            self.assertEqual(sum(off for _, off in told), wanted)
            self.assertEqual([number for number, _ in told], sorted({number for number, _ in told}))
            for number, off in told:
                self.assertIs(type(off), int)
                self.assertGreaterEqual(off, 1)
                self.assertEqual(day.rest(number), amounts[number] - off)
            self.assertEqual(total(rests(day)), total([row[1:] for row in before]) - wanted)
            self.assertIs(ring(count, rests(day)), None)

    def test_a_long_day(self):
        debts = drawn_book(7, 6, 60, [1, 2, 40, MOST])
        day = Day(6)
        for number, debt in enumerate(debts):
            self.assertEqual(day.owe(*debt), number)
            if number % 4 == 3:
                before = all_balances(day, 6)
                day.clear()
                self.assertEqual(all_balances(day, 6), before)
                self.assertIs(ring(6, rests(day)), None)
            if number % 5 == 4 and day.rest(number) > 0:
                self.assertEqual(day.pay(number, 1), day.rest(number))
        self.assertEqual(sum(all_balances(day, 6)), 0)


class TwoDaysTest(unittest.TestCase):
    def test_they_have_nothing_in_common(self):
        one = Day(3)
        other = Day(2)
        self.assertEqual(one.owe(2, 0, 5), 0)
        self.assertEqual(other.standing(), [])
        assert_refused(self, NoDebt, other.rest, 0)
        self.assertEqual(other.owe(0, 1, 8), 0)
        self.assertEqual(other.owe(1, 0, 3), 1)
        self.assertEqual(one.owe(0, 2, 2), 1)
        one.pay(0, 1)
        self.assertEqual(other.standing(), [(0, 0, 1, 8), (1, 1, 0, 3)])
        other.clear()
        self.assertEqual(one.standing(), [(0, 2, 0, 4), (1, 0, 2, 2)])
        self.assertEqual(one.balance(2), -2)
        self.assertEqual(other.balance(1), 5)
        assert_refused(self, NoHouse, other.balance, 2)


class RefusalTest(unittest.TestCase):
    def setUp(self):
        self.day = day_of(3, [(0, 1, 5), (1, 2, 7), (2, 0, 3), (1, 0, 9)])
        self.day.pay(3, 9)
        self.day.pay(0, 1)

    def tearDown(self):
        # Nothing that is refused changes anything.
        self.assertEqual(self.day.standing(), [(0, 0, 1, 4), (1, 1, 2, 7), (2, 2, 0, 3)])
        self.assertEqual(all_balances(self.day, 3), [-1, -3, 4])
        self.assertEqual(self.day.rest(3), 0)
        self.assertEqual(self.day.owe(0, 1, 1), 4)

    def test_no_count(self):
        for count in NO_COUNTS:
            assert_refused(self, BadCount, Day, count)

    def test_no_debt(self):
        wrong = [
            (0, 0, 5), (2, 2, 5), (3, 0, 5), (0, 3, 5), (-1, 0, 5), (0, -1, 5), (20, 0, 5), (0, MOST, 5),
            (0, 1, 0), (0, 1, -1), (0, 1, -MOST), (0, 1, MOST + 1), (0, 1, 10 ** 30),
            (True, 0, 5), (0, True, 5), (False, 1, 5), (1, False, 5), (0, 1, True), (0, 1, False),
        ]
        for bad in NO_NUMBERS:
            wrong += [(bad, 1, 5), (2, bad, 5), (0, 1, bad)]
        for debt in wrong:
            assert_refused(self, BadDebt, self.day.owe, *debt)

    def test_a_single_house_can_owe_nobody(self):
        day = Day(1)
        for debt in [(0, 0, 1), (0, 1, 1), (1, 0, 1)]:
            assert_refused(self, BadDebt, day.owe, *debt)
        self.assertEqual(day.standing(), [])

    def test_no_number_of_a_debt(self):
        for number in NO_NUMBERS + [-1, -4, 4, 5, 60, MOST, 10 ** 30, -MOST]:
            assert_refused(self, NoDebt, self.day.rest, number)
            assert_refused(self, NoDebt, self.day.pay, number, 1)
        for number in (0, -1, True, False, None):
            assert_refused(self, NoDebt, Day(3).rest, number)
            assert_refused(self, NoDebt, Day(3).pay, number, 1)

    def test_no_debt_comes_ahead_of_no_amount(self):
        for number in (-1, 4, True, None, "0"):
            for amount in (0, -1, MOST + 1, True, None, "1"):
                assert_refused(self, NoDebt, self.day.pay, number, amount)

    def test_no_amount(self):
        for amount in NO_NUMBERS + [0, -1, -4, MOST, 10 ** 30, -MOST]:
            for number in range(4):
                assert_refused(self, BadAmount, self.day.pay, number, amount)

    def test_no_more_than_what_is_left(self):
        for number, rest in enumerate([4, 7, 3, 0]):
            assert_refused(self, BadAmount, self.day.pay, number, rest + 1)

    def test_no_house(self):
        for house in NO_NUMBERS + [-1, -3, 3, 4, 20, MOST, 10 ** 30, -MOST]:
            assert_refused(self, NoHouse, self.day.balance, house)
        assert_refused(self, NoHouse, Day(1).balance, 1)
        assert_refused(self, NoHouse, Day(20).balance, 20)


class NothingIsKeptTest(unittest.TestCase):
    def test_what_is_told_is_the_askers_own(self):
        day = day_of(3, [(0, 1, 5), (1, 2, 7), (2, 0, 3)])
        standing = day.standing()
        standing[0] = (9, 9, 9, 9)
        standing.pop()
        self.assertEqual(day.standing(), [(0, 0, 1, 5), (1, 1, 2, 7), (2, 2, 0, 3)])
        told = day.clear()
        told[0] = (0, MOST)
        told.clear()
        self.assertEqual(day.standing(), [(0, 0, 1, 2), (1, 1, 2, 4)])
        self.assertEqual(all_balances(day, 3), [-2, -2, 4])

    def test_what_is_told_stays_whatever_comes_later(self):
        day = day_of(3, [(0, 1, 5), (1, 2, 7), (2, 0, 3)])
        standing = day.standing()
        told = day.clear()
        later = day.standing()
        day.pay(0, 2)
        day.owe(2, 1, 9)
        again = day.clear()
        day.owe(1, 0, 1)
        self.assertEqual(standing, [(0, 0, 1, 5), (1, 1, 2, 7), (2, 2, 0, 3)])
        self.assertEqual(told, [(0, 3), (1, 3), (2, 3)])
        self.assertEqual(later, [(0, 0, 1, 2), (1, 1, 2, 4)])
        self.assertEqual(again, [(1, 4), (3, 4)])

    def test_asking_changes_nothing(self):
        day = day_of(2, [(0, 1, 5), (1, 0, 3)])
        for _ in range(2):
            self.assertEqual(day.standing(), [(0, 0, 1, 5), (1, 1, 0, 3)])
            self.assertEqual(day.rest(0), 5)
            self.assertEqual(day.balance(0), -2)


if __name__ == "__main__":
    unittest.main()
