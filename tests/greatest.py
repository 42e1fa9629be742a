"""A plan and a house at the bounds."""

import itertools

GREAT_PLAN = (
    30,
    (None, 0) + tuple(range(1, 10)) + tuple(range(9)),
    tuple(
        tuple(
            tuple(tuple((29 - w - v - k - 7 * p) % 30 for p in range(4)) for k in range(6))
            for v in range(20)
        )
        for w in range(6)
    ),
)
GREAT_HOUSE = (45, tuple(sorted(list(itertools.combinations(range(35, 45), 2)) + [(r, r + 1) for r in range(15)])))
