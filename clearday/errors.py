"""The refusals, one class for each kind of failure."""


class DebtError(ValueError):
    """Any refusal."""


class BadCount(DebtError):
    """What was given is no count of houses."""


class BadDebt(DebtError):
    """What was given is no debt, or no list of debts."""


class BadCut(DebtError):
    """What was given is no cut of the debts."""


class Uneven(DebtError):
    """The cut is not even."""


class BadPrices(DebtError):
    """What was given is no list of prices."""


class NotBest(DebtError):
    """The cut is not a best one."""


class NoDebt(DebtError):
    """What was given is no number of a debt."""


class NoHouse(DebtError):
    """What was given is no house."""


class BadAmount(DebtError):
    """What was given is no amount that can be paid."""
