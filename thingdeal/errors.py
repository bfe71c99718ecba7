"""The refusals of the program, one class for each kind."""


class DealError(ValueError):
    """Any refusal."""


class BadTable(DealError):
    """What is no table of worths, or no row that would keep it one."""


class BadShares(DealError):
    """What are no shares of a table's things."""


class BadHeir(DealError):
    """What is no heir's number."""


class BadThing(DealError):
    """What is no thing's number, or no list of things."""


class BadRing(DealError):
    """What is no ring of heirs."""


class BadOrder(DealError):
    """What is no order of all heirs."""


class Full(DealError):
    """One heir or one thing more than an estate can have."""


class BadNote(DealError):
    """What is no text of shares."""
