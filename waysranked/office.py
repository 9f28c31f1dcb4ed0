"""An office: it keeps asked lists with their papers while roads turn."""

from waysranked.changes import check_change, net_behind, shown_behind
from waysranked.errors import NoAsk, NoChange, Nothing, TooMany
from waysranked.nets import check_net
from waysranked.papers import paper_of, shown_by
from waysranked.wholes import is_whole

MOST_ASKS = 12


class Office:
    """A net, and by numbers asks (start, goal, many, told, paper) of it."""

    def __init__(self, net):
        check_net(net)
        self.held_net = net
        # No dict of asks is changed once it is held: those of the past and of twins may be the same one.
        self.held_asks = {}
        self.past = []

    def ask(self, start, goal, *, many=3):
        """Find a new ask and tell its number."""
        told, paper = paper_of(self.held_net, start, goal, many=many)
        if len(self.held_asks) >= MOST_ASKS:
            raise TooMany(len(self.held_asks) + 1, MOST_ASKS)
        number = least_free(self.held_asks)
        self.hold(self.held_net, {**self.held_asks, number: (start, goal, many, told, paper)})
        return number

    def drop(self, number):
        """Have an ask there no more."""
        self.check_ask(number)
        self.hold(self.held_net, {other: self.held_asks[other] for other in self.held_asks if other != number})

    def undo(self):
        """Undo the last deed that stands."""
        if not self.past:
            raise Nothing("there is nothing to undo")
        self.held_net, self.held_asks = self.past.pop()

    def turn(self, road, cost):
        """Make a change and tell (kept, anew), the numbers of the asks that were kept and of those found anew."""
        return self.together(((road, cost),))

    def together(self, changes):
        """Make a tuple of changes one by one as one deed, and tell (kept, anew)."""
        if not isinstance(changes, tuple):
            raise NoChange("this is no tuple of changes")
        net = self.held_net
        asks = self.held_asks
        anew = []
        for change in changes:
            check_change(net, change)
            net = net_behind(net, change)
            asks, found = asks_behind(net, asks, change)
            anew += found
        self.hold(net, asks)
        numbers = self.asks()
        return tuple([one for one in numbers if one not in anew]), tuple([one for one in numbers if one in anew])

    def net(self):
        """Tell the net."""
        return self.held_net

    def told_of(self, number):
        """Tell (told, paper) of an ask as they are now."""
        self.check_ask(number)
        start, goal, many, told, paper = self.held_asks[number]
        return told, paper

    def asks(self):
        """Tell the rising list of the numbers of the asks that are there."""
        return sorted(list(self.held_asks))

    def shows(self, number):
        """Tell what the paper of an ask shows."""
        self.check_ask(number)
        start, goal, many, told, paper = self.held_asks[number]
        return shown_by(self.held_net, start, goal, told, paper)

    def twin(self):
        """Tell another office like this one, with what can be undone."""
        other = Office(self.held_net)
        other.held_asks = self.held_asks
        other.past = list(self.past)
        return other

    def hold(self, net, asks):
        """Do a deed: hold this net and these asks, and keep those ahead to be undone to."""
        self.past.append((self.held_net, self.held_asks))
        self.held_net = net
        self.held_asks = asks

    def check_ask(self, thing):
        """Refuse what is no number of an ask that is there."""
        # True and False equal 1 and 0 but are no numbers of asks, and not each thing could be looked for in a dict.
        if not is_whole(thing) or thing not in self.held_asks:
            raise NoAsk(thing)

    def __len__(self):
        return len(self.held_asks)

    def __eq__(self, other):
        if not isinstance(other, Office):
            return False
        return self.held_net == other.held_net and self.held_asks == other.held_asks

    def __repr__(self):
        return f"Office({self.held_net[0]} places, {len(self.held_net[1])} roads, {len(self.held_asks)} asks)"


def least_free(asks):
    """Tell the least number from 0 on that no ask has."""
    number = 0
    while number in asks:
        number += 1
    return number


def asks_behind(net, asks, change):
    """Tell (asks, found), the asks in the net behind a change and a list of the numbers of those found anew."""
    behind = {}
    found = []
    for number in asks:
        start, goal, many, told, paper = asks[number]
        shown = shown_behind(net, start, goal, told, paper, change)
        if shown is None:
            found.append(number)
            told, paper = paper_of(net, start, goal, many=many)
        else:
            told, paper = shown[:2]
        behind[number] = (start, goal, many, told, paper)
    return behind, found
