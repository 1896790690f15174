"""Lots that the tests try: with shares that sum to less than the hands, to just the hands and to more, and great ones."""

import random

from tests.slow import lot_of
from tests.support import SHARES

LESS = (
    lot_of(1, (1, 16)), lot_of(1, (2, 3)), lot_of(1, (1, 2), (1, 3)), lot_of(2, (1, 1), (5, 6)), lot_of(3, (1, 2), (4, 5)),
    lot_of(1, (1, 4), (1, 5), (1, 6)), lot_of(2, (3, 4), (3, 5), (1, 2)), lot_of(3, (2, 3), (3, 4), (4, 5), (1, 2)),
    lot_of(2, (1, 2), (1, 3), (2, 3), (1, 4)), lot_of(3, (1, 2), (2, 3), (1, 4), (3, 4), (1, 6)),
    lot_of(6, (1, 2), (1, 2), (1, 3), (1, 3), (2, 3), (5, 6)), lot_of(2, (1, 3), (1, 3), (1, 3), (1, 3), (1, 3), (1, 4)),
)
JUST = (
    lot_of(1, (1, 1)), lot_of(1, (1, 2), (1, 2)), lot_of(1, (3, 8), (5, 8)), lot_of(1, (1, 2), (1, 3), (1, 6)),
    lot_of(2, (2, 3), (1, 2), (5, 6)), lot_of(2, (3, 5), (4, 5), (3, 5)), lot_of(2, (1, 1), (1, 3), (2, 3)),
    lot_of(2, (1, 2), (1, 4), (3, 4), (1, 2)), lot_of(3, (3, 4), (3, 5), (9, 10), (3, 4)),
    lot_of(3, (2, 3), (2, 3), (2, 3), (1, 2), (1, 2)), lot_of(4, (4, 5), (4, 5), (4, 5), (4, 5), (4, 5)),
    lot_of(3, (1, 2), (1, 2), (1, 3), (2, 3), (1, 4), (3, 4)), lot_of(5, (5, 6), (5, 6), (5, 6), (5, 6), (5, 6), (5, 6)),
)
MORE = (
    lot_of(1, (1, 2), (2, 3)), lot_of(1, (1, 1), (1, 16)), lot_of(1, (1, 2), (1, 3), (1, 5)), lot_of(2, (2, 3), (3, 4), (5, 6)),
    lot_of(3, (1, 1), (1, 1), (1, 1), (1, 1)), lot_of(1, (1, 4), (1, 4), (1, 4), (1, 4), (1, 4)),
    lot_of(2, (1, 2), (1, 2), (1, 2), (1, 2), (1, 2), (1, 2)),
)
LONG = (
    lot_of(3, (7, 16), (9, 16), (8, 15), (7, 15), (4, 9), (5, 9)), lot_of(2, (1, 16), (2, 9), (1, 15), (3, 5), (5, 12), (5, 9)),
    lot_of(3, (15, 16), (13, 15), (8, 9)),
)

TOO_LONG = (
    lot_of(3, (1, 16), (1, 9), (1, 7)), lot_of(1, (1, 16), (15, 16), (1, 11), (1, 5)), lot_of(1, (1, 7), (1, 11), (1, 10)),
)

SMALL_LOTS = (*LESS, *JUST, *MORE)


def random_lots(many, seed):
    """Lots of all numbers of works and hands, with rounds of no more than 60."""
    chance = random.Random(seed)
    shares = [share for share in SHARES if 60 % share[1] == 0]
    return [lot_of(chance.randint(1, 4), *chance.choices(shares, k=at % 5 + 1)) for at in range(many)]
