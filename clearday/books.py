"""Books: a count of houses and a list of debts between them."""

from clearday.errors import BadCount, BadDebt

MOST_HOUSES = 20
MOST_DEBTS = 60
MOST_AMOUNT = 1000000000


def is_whole(value):
    """Tell whether the value is a whole number."""
    # isinstance takes True and False for integers; here they are no numbers.
    return isinstance(value, int) and not isinstance(value, bool)


def is_number(value, low, high):
    """Tell whether the value is a whole number from low to high."""
    return is_whole(value) and low <= value <= high


def is_debt(count, value):
    """Tell whether the value is a debt between two of so many houses."""
    if not isinstance(value, tuple) or len(value) != 3:
        return False
    debtor, creditor, amount = value
    if not is_number(debtor, 0, count - 1) or not is_number(creditor, 0, count - 1):
        return False
    return debtor != creditor and is_number(amount, 1, MOST_AMOUNT)


def check_count(count):
    """Refuse what is no count of houses."""
    if not is_number(count, 1, MOST_HOUSES):
        raise BadCount(f"a count of houses is a number from 1 to {MOST_HOUSES}")


def checked(count, debts):
    """Return a list of the same debts, or refuse what is no book."""
    check_count(count)
    if not isinstance(debts, list) or len(debts) > MOST_DEBTS:
        raise BadDebt(f"the debts are a list of at most {MOST_DEBTS}")
    for number, debt in enumerate(debts):
        if not is_debt(count, debt):
            raise BadDebt(f"what stands at place {number} is no debt of this book")
    return list(debts)


def balances(count, debts):
    """Return for each house what is owed to it less what it owes."""
    sums = [0] * count
    for debtor, creditor, amount in debts:
        sums[debtor] -= amount
        sums[creditor] += amount
    return sums


def total(debts):
    """Return what is owed in all."""
    return sum([debt[2] for debt in debts])
