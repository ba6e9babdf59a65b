"""A day on which debts come, are paid and are cleared."""

from clearday.best import best
from clearday.books import balances, check_count, is_debt, is_number
from clearday.errors import BadAmount, BadDebt, NoDebt, NoHouse


class Day:
    """The debts of a day, and what is left of each."""

    def __init__(self, count):
        check_count(count)
        self._count = count
        self._pairs = []
        self._rests = []

    def owe(self, debtor, creditor, amount):
        """Take a debt that comes, and return its number."""
        if not is_debt(self._count, (debtor, creditor, amount)):
            raise BadDebt("this is no debt between two houses of the day")
        self._pairs.append((debtor, creditor))
        self._rests.append(amount)
        return len(self._rests) - 1

    def rest(self, number):
        """Return what is left of a debt."""
        if not is_number(number, 0, len(self._rests) - 1):
            raise NoDebt("no debt of this number came")
        return self._rests[number]

    def pay(self, number, amount):
        """Take a payment of a debt, and return what is left then."""
        rest = self.rest(number)
        if not is_number(amount, 1, rest):
            raise BadAmount(f"a payment of debt {number} is a number from 1 to what is left, {rest}")
        self._rests[number] = rest - amount
        return rest - amount

    def balance(self, house):
        """Return what is still owed to a house less what it still owes."""
        if not is_number(house, 0, self._count - 1):
            raise NoHouse("no house of the day has this number")
        debts = [(debtor, creditor, rest) for _, debtor, creditor, rest in self.standing()]
        return balances(self._count, debts)[house]

    def standing(self):
        """Return the number, the houses and the rest of each debt that stands."""
        return [
            (number, debtor, creditor, self._rests[number])
            for number, (debtor, creditor) in enumerate(self._pairs)
            if self._rests[number] > 0
        ]

    def clear(self):
        """Cut the best cut off all that stands, and return what was cut off which debts."""
        standing = self.standing()
        cut = best(self._count, [(debtor, creditor, rest) for _, debtor, creditor, rest in standing])
        told = [(row[0], off) for row, off in zip(standing, cut) if off > 0]
        for number, off in told:
            self._rests[number] -= off
        return told
