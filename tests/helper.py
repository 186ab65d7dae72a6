"""What several test files need: wrong things, and a way to ask how a call is refused."""

import copy


def nested(deep):
    thing = []
    for _ in range(deep - 1):
        thing = [thing]
    return thing


# Things of other kinds than whole numbers, the truths among them.
OTHER_KINDS = [
    True, False, None, "", "1", "4", "a" * 2000, [], [1], [4, 4], (), (1,), (4, 4), {}, {4: 4}, {"width": 4},
    [1, [2, (3, None)], {"a": [True]}], nested(10), [1] * 2000, tuple(range(2000)), {k: k for k in range(999)},
    1.0, 4.0, b"4",
]
FAR_NUMBERS = [10 ** 29, 10 ** 30 - 1, -(10 ** 29), -(10 ** 30 - 1)]


def assert_refused(case, error, call, *args, **named):
    """The very class is raised, not one under it, and what was handed in stays as it was."""
    before = copy.deepcopy((args, named))
    with case.assertRaises(error) as caught:
        call(*args, **named)
    case.assertIs(type(caught.exception), error)
    case.assertEqual((args, named), before)
