"""Lots, ascending tuples of different numbers from 0, of machines or of services; and orders of them."""

from itertools import combinations, permutations

from nextalive.houses import is_whole


def is_lot(value, things):
    """True if any value is an ascending tuple of different ones of so many things."""
    if not isinstance(value, tuple):
        return False
    least = 0
    for part in value:
        if not is_whole(part) or not least <= part < things:
            return False
        least = part + 1
    return True


def all_lots(things):
    """All lots of so many things, the empty one among them, in the row of lots_up_to."""
    return lots_up_to(things, things)


def lots_up_to(things, most):
    """All lots of at most most of so many things: shorter ones first, equally long ones in ascending order."""
    found = []
    for many in range(min(things, most) + 1):
        found.extend(list(combinations(range(things), many)))
    return found


def orders_of(things, many):
    """All orders of so many of these things, in ascending order."""
    return list(permutations(range(things), many))
