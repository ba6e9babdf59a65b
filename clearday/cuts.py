"""Cuts: how much is cut off each debt of a book."""

from clearday.books import balances, is_number
from clearday.errors import BadCut, Uneven


def check_cut(debts, cut):
    """Refuse what is no cut of the debts."""
    if not isinstance(cut, list) or len(cut) != len(debts):
        raise BadCut("a cut is a list of as many numbers as there are debts")
    for number, debt in enumerate(debts):
        amount = debt[2]
        if not is_number(cut[number], 0, amount):
            raise BadCut(f"what is cut off debt {number} is no number from 0 to {amount}")


def worth(debts, cut):
    """Return the sum of what is cut off."""
    check_cut(debts, cut)
    return sum(cut)


def left(debts, cut):
    """Return the debts less what is cut off, without those of which nothing is left."""
    check_cut(debts, cut)
    return [
        (debtor, creditor, amount - off)
        for off, (debtor, creditor, amount) in zip(cut, debts)
        if off < amount
    ]


def even(count, debts, cut):
    """Tell whether for each house as much is cut off what it owes as off what is owed to it."""
    check_cut(debts, cut)
    # What is cut off is itself a list of debts, and evenness says that it moves no balance.
    removed = [(debtor, creditor, off) for off, (debtor, creditor, _) in zip(cut, debts)]
    return not any(balances(count, removed))


def check_even(count, debts, cut):
    """Refuse what is no cut of the debts, then a cut that is not even."""
    if not even(count, debts, cut):
        raise Uneven("the cut takes from a house more on one side than on the other")
