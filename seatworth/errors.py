"""The refusals: what is none (NoThing), and what can't be now (NotNow)."""


class SeatError(ValueError):
    """Any refusal."""


class NoThing(SeatError):
    """What was handed in is none of what is due there."""


class NotNow(SeatError):
    """What was asked for can't be now."""


class NoNumber(NoThing):
    """No such number, or no fraction."""


class NoSale(NoThing):
    """No sale."""


class NoNet(NoThing):
    """No net."""


class NoClass(NoThing):
    """No number of a class."""


class NoTime(NoThing):
    """No time."""


class NoLeft(NoThing):
    """No number of seats left."""


class NoSingle(NoThing):
    """Not every size of the sale is 1."""


class NoPlan(NoThing):
    """No plan of the sale."""


class NoRun(NoThing):
    """No run of the sale."""


class NoLimit(NoThing):
    """No limit up to which seats may be sold."""


class NoShow(NoThing):
    """No show."""


class NoAmends(NoThing):
    """No amends."""


class NoPrices(NoThing):
    """No prices of the net."""


class NoLine(NoThing):
    """No line of a desk."""


class NoText(NoThing):
    """No text of a sale; `at` is the number of the first word that is none there."""

    def __init__(self, at):
        super().__init__(f"no text of a sale, at {at}")
        self.at = at


class Over(NotNow):
    """No period is to come."""


class Nothing(NotNow):
    """There is nothing to undo."""
