"""The best cut of a book, and the prices that show it."""

from clearday.books import is_whole
from clearday.cuts import check_cut, check_even
from clearday.errors import BadPrices, NotBest
from clearday.rings import circle


def moves(debts, cut, least):
    """Return what can be cut off further, or given back, by the least amount or more.

    A move is a tuple of the house it leads from, the house it leads to, what each unit adds
    to the worth (1 or -1), and the number of the debt.
    """
    found = []
    for number, (debtor, creditor, amount) in enumerate(debts):
        if amount - cut[number] >= least:
            found.append((debtor, creditor, 1, number))
        if cut[number] >= least:
            found.append((creditor, debtor, -1, number))
    return found


def climb(count, ways):
    """Return heights that rise by its gain at least along each move, and an empty list.

    Where there are no such heights, the list is a ring of moves whose gains come to more
    than nothing, each as a tuple of the number of a debt and a gain.
    """
    heights = [0] * count
    before = [None] * count
    last = [None] * count
    raised = None
    # A house that is raised as late as in the last turn was raised by way of a ring.
    for _ in range(count):
        raised = None
        for start, end, gain, number in ways:
            if heights[start] + gain > heights[end]:
                heights[end] = heights[start] + gain
                before[end] = start
                last[end] = (number, gain)
                raised = end
        if raised is None:
            break
    if raised is None:
        return heights, []
    return heights, [last[house] for house in circle(count, before, raised)]


def changed(debts, cut, gaining):
    """Return the cut, changed round a ring of moves by as much as the ring allows."""
    amount = min([debts[number][2] - cut[number] if gain > 0 else cut[number] for number, gain in gaining])
    told = list(cut)
    for number, gain in gaining:
        told[number] += gain * amount
    return told


def best(count, debts):
    """Return a best cut."""
    cut = [0] * len(debts)
    # Large changes come first: by small ones alone, large amounts could take nearly for ever.
    least = max([debt[2] for debt in debts], default=0)
    while least > 0:
        _, gaining = climb(count, moves(debts, cut, least))
        if gaining:
            cut = changed(debts, cut, gaining)
        else:
            least //= 2
    return cut


def better(count, debts, cut):
    """Return an even cut that is worth more, or None where the cut is a best one."""
    check_even(count, debts, cut)
    _, gaining = climb(count, moves(debts, cut, 1))
    if not gaining:
        return None
    return changed(debts, cut, gaining)


def prices(count, debts, cut):
    """Return prices that show the cut, or refuse a cut that is not a best one."""
    check_even(count, debts, cut)
    # A move onward asks that the lure is not above 0, a move back that it is not below 0.
    heights, gaining = climb(count, moves(debts, cut, 1))
    if gaining:
        raise NotBest("there is an even cut that is worth more")
    return heights


def check_prices(count, tags):
    """Refuse what is no list of prices."""
    if not isinstance(tags, list) or len(tags) != count:
        raise BadPrices("prices are a list of as many numbers as there are houses")
    for house, tag in enumerate(tags):
        if not is_whole(tag):
            raise BadPrices(f"the price of house {house} is no number")


def shown(count, debts, cut, tags):
    """Tell whether the prices show the cut, be it even or not."""
    check_cut(debts, cut)
    check_prices(count, tags)
    for off, (debtor, creditor, amount) in zip(cut, debts):
        lure = 1 + tags[debtor] - tags[creditor]
        if lure < 0 and off > 0:
            return False
        if lure > 0 and off < amount:
            return False
    return True
