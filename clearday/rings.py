"""Rings of debts: how to find one, and which ones an even cut is made of."""

from clearday.cuts import check_even


def placed(count, debts):
    """Return as many houses as can stand in an order in which each is behind all its debtors."""
    waiting = [0] * count
    for _, creditor, _ in debts:
        waiting[creditor] += 1
    houses = [house for house in range(count) if waiting[house] == 0]
    at = 0
    while at < len(houses):
        for debtor, creditor, _ in debts:
            if debtor == houses[at]:
                waiting[creditor] -= 1
                if waiting[creditor] == 0:
                    houses.append(creditor)
        at += 1
    return houses


def circle(count, before, house):
    """Return the houses of the circle that the way back from a house ends in, in forward order."""
    # As many steps as there are houses lead into the circle, however long the way to it is.
    for _ in range(count):
        house = before[house]
    houses = [house]
    while before[houses[-1]] != house:
        houses.append(before[houses[-1]])
    return houses[::-1]


def ring(count, debts):
    """Return a ring of the book, as a list of numbers of debts, or None."""
    houses = placed(count, debts)
    inward = {}
    before = {}
    for number, (debtor, creditor, _) in enumerate(debts):
        if debtor not in houses:
            inward[creditor] = number
            before[creditor] = debtor
    if not inward:
        return None
    # A house that has no place waits for a debtor that has none either, so the way back never ends.
    return [inward[house] for house in circle(count, before, min(inward))]


def order(count, debts):
    """Return all houses in an order in which each debt leads to a later one, or None."""
    houses = placed(count, debts)
    if len(houses) < count:
        return None
    return houses


def rings(count, debts, cut):
    """Return the pairs of an amount and a ring that an even cut is made of."""
    check_even(count, debts, cut)
    rest = list(cut)
    pairs = []
    # What is even and not nothing has a ring, and each ring uses up one debt at least.
    while any(rest):
        numbers = [number for number, off in enumerate(rest) if off > 0]
        found = ring(count, [debts[number] for number in numbers])
        members = [numbers[at] for at in found]
        amount = min([rest[number] for number in members])
        for number in members:
            rest[number] -= amount
        pairs.append((amount, members))
    return pairs
