"""The refusals: NoThing, of what is none, and NotNow, of what can't be now."""


class WayError(ValueError):
    """Whatever is refused."""


class NoThing(WayError):
    """What is handed in is none."""


class NotNow(WayError):
    """What is asked for can't be now."""


class NoNet(NoThing):
    """What is handed in is no net."""


class NoPlace(NoThing):
    """What is handed in is no place of the net."""


class NoRoad(NoThing):
    """What is handed in is no road of the net."""


class NoMany(NoThing):
    """What is handed in is no number of ways that is let."""


class NoShut(NoThing):
    """What is handed in is no rising tuple of places that may be shut."""


class NoCost(NoThing):
    """What is handed in is no cost that is let."""


class NoNumber(NoThing):
    """What is handed in is no number of a walk."""


class NoWay(NoThing):
    """What is handed in is no way that is let."""


class NoWord(NoThing):
    """What is handed in is no word that is let."""


class NoTime(NoThing):
    """What is handed in is no time."""


class NoChange(NoThing):
    """What is handed in is no change of the net."""


class NoPaper(NoThing):
    """What is handed in shows nothing."""


class NoLine(NoThing):
    """What is handed in is no line for a desk."""


class NoText(NoThing):
    """What is handed in writes no net; at is the number of the first wrong line, -1 of what is no text."""

    def __init__(self, at):
        super().__init__("this text writes no net")
        self.at = at


class NoAsk(NotNow):
    """No ask has this number now."""

    def __init__(self, number):
        super().__init__("no ask has this number")
        self.number = number


class Nothing(NotNow):
    """There is nothing to undo."""


class TooMany(NotNow):
    """There would be this many, where there may be so many at most."""

    def __init__(self, many, most):
        super().__init__("there would be too many")
        self.many = many
        self.most = most
