"""Objects of any form (point 2), none of which is a party, a pair of persons, a person or a tuple of numbers."""


def nested(kind, depth):
    """Return a tuple or a list in another one, so many deep."""
    thing = kind()
    for _ in range(depth - 1):
        thing = kind([thing])
    return thing


def odd_things():
    """Return a new list of such objects, so that what a call did to them can be seen."""
    return [
        None, True, False, -1, 8, 21, 10**12, -(10**12),
        "", "a", "01", "ann", "\n", "a" * 5000,
        [], [0], [0, 1], [[1], [], []], [(1,), (), ()], [None, [True, {}]],
        {}, {0: 1}, {0: (0, 1), 1: None}, {"numbers": (1,), "met": (), "apart": ()}, {(0, 1): True},
        (None, ""), (None, None, [None]), ("0", "1"), ("a", "b", "c"), ((), ()), ((), (), ()),
        ([0], [1]), ({}, {}), ((0,), (1,)), ([1], (), ()), ({0: 1}, (), ()), (True, False), (False, 1), (0, True),
        nested(tuple, 20), nested(list, 20), [0] * 100000, (0, 1) * 50000, ((0, 1),) * 50000,
    ]
