"""What several test files share."""

import inspect

from clearday.errors import DebtError

MOST = 1000000000

NO_COUNTS = [
    0, -1, -20, 21, 22, 1000, True, False, "", "3", "three", None, [], [3], (3,), {}, {3: 3}, 3.0, b"3",
]

# What is no number, whatever its bounds are.
NO_NUMBERS = [True, False, "", "0", "1", None, [], [0], (0,), {}, 0.0, 1.0, b"0"]


def assert_refused(case, error, function, *given):
    """Fail unless the call raises just this error, which is a DebtError and a ValueError."""
    for base in (error, DebtError, ValueError):
        with case.subTest(function=function.__name__, given=given, base=base.__name__):
            with case.assertRaises(base) as caught:
                function(*given)
            case.assertIs(type(caught.exception), error)


def assert_functions(case, module, wanted):
    """Fail unless the module itself defines these functions with these arguments."""
    for name, arguments in wanted.items():
        with case.subTest(name=name):
            function = getattr(module, name)
            case.assertEqual(list(inspect.signature(function).parameters), arguments)
            case.assertEqual(function.__module__, module.__name__)


def assert_numbers(case, told, many):
    """Fail unless this is a list of so many whole numbers."""
    case.assertIs(type(told), list)
    case.assertEqual(len(told), many)
    for number in told:
        case.assertIs(type(number), int)


def assert_ring(case, debts, numbers):
    """Fail unless these numbers of debts are a ring in its order."""
    assert_numbers(case, numbers, len(numbers))
    case.assertGreaterEqual(len(numbers), 1)
    for number in numbers:
        case.assertIn(number, range(len(debts)))
    for number, following in zip(numbers, numbers[1:] + numbers[:1]):
        case.assertEqual(debts[number][1], debts[following][0])
    debtors = [debts[number][0] for number in numbers]
    case.assertEqual(len(set(debtors)), len(debtors))


def drawn_book(seed, count, many, amounts):
    """Return so many debts, drawn by reckoning alone: the same ones in each run."""
    state = [seed]

    def draw(below):
        state[0] = (state[0] * 6364136223846793005 + 1442695040888963407) % 2 ** 64
        return (state[0] >> 33) % below

    draw(2)
    debts = []
    for _ in range(many):
        debtor = draw(count)
        creditor = (debtor + 1 + draw(count - 1)) % count
        debts.append((debtor, creditor, amounts[draw(len(amounts))]))
    return debts


def large_books():
    """Return books of up to 20 houses and 60 debts, with amounts from the least to the most."""
    books = []
    for seed in range(24):
        count = (2, 3, 5, 8, 13, 20)[seed % 6]
        amounts = ([1], [1, MOST], [MOST], [1, 2, 1000, MOST - 1, 123456789, MOST])[seed // 6]
        books.append((count, drawn_book(seed, count, 60, amounts)))
    return books


def small_books():
    """Return books so small that all their cuts can be tried one by one."""
    books = [(1, []), (2, []), (2, [(0, 1, 3)]), (2, [(0, 1, 3), (1, 0, 2)])]
    for seed in range(60):
        count = 2 + seed % 4
        books.append((count, drawn_book(seed, count, 3 + seed % 4, [1, 2, 3])))
    return books
