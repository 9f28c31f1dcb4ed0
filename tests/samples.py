"""Nets and things that several tests hand in."""

# Two roads lead from 0 to 1; no road leads from 3; no road leads to or from 4.
NET = (
    5,
    (
        (0, 1, 3, 4),
        (1, 2, 5, 0),
        (2, 0, 7, 1),
        (0, 1, 2, 9),
        (2, 3, 1, 99),
        (1, 0, 99, 2),
    ),
)


def deep(thing, wrap):
    """A thing ten deep in what wrap makes of it."""
    for _ in range(10):
        thing = wrap(thing)
    return thing


def odd_things():
    """Things of whatever kind, new each time: none is a net, a road, some roads, a way, or a number from 0 to 99."""
    return [
        True, False, None,
        -1, 100, 10 ** 29, -(10 ** 29),
        "", "0", "1", "()", "a text\n\twith ~ in it", "x" * 4000,
        [], [0], [1, 2], [[0]], [(0, 1, 3, 4)], [None] * 4000,
        (None,), (True,), (False,), ("0",), ([],), ((),), ({},), (-1,), (30,), (10 ** 29,), (0, True), (0, "1"),
        (0, ()), (0, ((0, 1, 3, 4),)), ("x",) * 4000,
        {}, {0: 1}, {"0": [1, (2, 3)]}, {(0, 1): {"a": None}},
        deep(0, lambda held: [held]), deep(0, lambda held: (held,)), deep("a", lambda held: {"b": held}),
        [1, ()], [5, NET[1]], (5, list(NET[1])), {5: NET[1]}, "(1, ())",
    ]
