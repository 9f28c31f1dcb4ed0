"""Nets and things that several tests hand in."""

import inspect
import itertools

# Two roads lead from 0 to 1; no road leads from 3; no road leads to or from 4.
NET = (
    5,
    (
        (0, 1, 3, 4),
        (1, 2, 5, 0),
        (2, 0, 7, 1),
        (0, 1, 2, 9),
        (2, 3, 1, 99),
        (1, 0, 99, 2),
    ),
)


def deep(thing, wrap):
    """A thing ten deep in what wrap makes of it."""
    for _ in range(10):
        thing = wrap(thing)
    return thing


def odd_things():
    """Things of whatever kind, new each time: none is a net, a road, some roads, a way, or a number from 0 to 99."""
    return [
        True, False, None,
        -1, 100, 10 ** 29, -(10 ** 29),
        "", "0", "1", "()", "a text\n\twith ~ in it", "x" * 4000,
        [], [0], [1, 2], [[0]], [(0, 1, 3, 4)], [None] * 4000,
        (None,), (True,), (False,), ("0",), ([],), ((),), ({},), (-1,), (30,), (10 ** 29,), (0, True), (0, "1"),
        (0, ()), (0, ((0, 1, 3, 4),)), ("x",) * 4000,
        {}, {0: 1}, {"0": [1, (2, 3)]}, {(0, 1): {"a": None}},
        deep(0, lambda held: [held]), deep(0, lambda held: (held,)), deep("a", lambda held: {"b": held}),
        [1, ()], [5, NET[1]], (5, list(NET[1])), {5: NET[1]}, "(1, ())",
    ]


class Dice:
    """Numbers that look thrown and are the same in each run."""

    def __init__(self, seed):
        self.state = seed * 2654435761 + 12345

    def below(self, many):
        self.state = (self.state * 6364136223846793005 + 1442695040888963407) % 2 ** 64
        return (self.state >> 33) % many


def made_net(seed, places, roads, costs=99):
    """A net of so many places and roads, of which none costs more than told; with few costs many ways cost alike."""
    dice = Dice(seed)
    made = []
    while places > 1 and len(made) < roads:
        one = dice.below(places)
        other = (one + 1 + dice.below(places - 1)) % places
        made.append((one, other, 1 + dice.below(costs), dice.below(100)))
    return (places, tuple(made))


def ringed_net(seed, places, roads, costs=99):
    """A made net whose first roads lead round through all places, so that each can be come to from each."""
    made = made_net(seed, places, roads, costs)[1]
    return (places, tuple((at, (at + 1) % places, *made[at][2:]) for at in range(places)) + made[places:])


def made_nets():
    """Nets of one to ten places and none to thirty roads, with few costs and with many."""
    nets = [(places, ()) for places in (1, 2, 10)] + [NET]
    for places in range(2, 11):
        for roads in (1, places, 2 * places, 30):
            nets.append(made_net(places * 100 + roads, places, roads, 3))
            nets.append(made_net(places * 200 + roads, places, roads))
    return nets


def parameters(asked):
    """The parameters of a function: those that may be handed in by place, those by name alone, and what is left out."""
    told = inspect.signature(asked).parameters.values()
    by_place = [one.name for one in told if one.kind == one.POSITIONAL_OR_KEYWORD]
    by_name = [one.name for one in told if one.kind == one.KEYWORD_ONLY]
    assert len(by_place) + len(by_name) == len(told)
    return by_place, by_name, {one.name: one.default for one in told if one.default is not one.empty}


def with_part(thing, at, part):
    """The tuple with another part at its number."""
    return (*thing[:at], part, *thing[at + 1:])


def variants(thing, odds):
    """The thing with something in it otherwise: at each depth a part out, twice, exchanged, more, or another one."""
    yield from odds
    if type(thing) is int:
        yield from (thing + 1, thing - 1, -1 - thing, thing + 50, True, False)
    if type(thing) is tuple:
        yield from (list(thing), thing[::-1], thing * 2, (thing,), thing[1:], dict(enumerate(thing)))
        yield from ((*thing, odd) for odd in (0, None, (), *thing[:1]))
        for at, part in enumerate(thing):
            yield thing[:at] + thing[at + 1:]
            yield thing[:at] + (part, part) + thing[at + 1:]
            if at:
                yield thing[:at - 1] + (part, thing[at - 1]) + thing[at + 1:]
            for other in variants(part, odds):
                yield with_part(thing, at, other)


def check_refusals(case, asked, rows):
    """Asked by names with good and bad things together, the bad one furthest to the left is refused.

    Each row is (name, good, bads, kind), in the order of the interface, of which kind tells the refusal of its bads.
    """
    choices = [[(name, good, None)] + [(name, bad, kind) for bad in bads] for name, good, bads, kind in rows]
    for choice in itertools.product(*choices):
        due = next((kind for _, _, kind in choice if kind is not None), None)
        handed = {name: thing for name, thing, _ in reversed(choice)}
        before = repr(handed)
        if due is None:
            asked(**handed)
        else:
            with case.assertRaises(due, msg=before[:300]) as caught:
                asked(**handed)
            case.assertIs(type(caught.exception), due, before[:300])
        case.assertEqual(repr(handed), before)
