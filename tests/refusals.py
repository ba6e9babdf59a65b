"""What several test files share: how a refusal is told from another one."""

from clearday.errors import DebtError


def assert_refused(case, error, function, *given):
    """Fail unless the call raises just this error, which is a DebtError and a ValueError."""
    for base in (error, DebtError, ValueError):
        with case.subTest(function=function.__name__, given=given, base=base.__name__):
            with case.assertRaises(base) as caught:
                function(*given)
            case.assertIs(type(caught.exception), error)
