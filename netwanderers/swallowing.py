"""A place that swallows whoever comes in: behind how many steps it's known which, and the best order of looking."""

from netwanderers.places import distances_among

IN_AND_BACK = 2


def look_out(ways, safe, here, place):
    """How far the safe place is from which they look into the place, and which it is; None, if none is beside it."""
    far = distances_among(ways, safe, here)
    beside = [(far[other], other) for other, entry in ways[place] if other in safe]
    return min(beside, default=None)


def steps_known(ways, home, order):
    """Of each place of the order behind how many steps it's known; None, if some place can't be looked into."""
    safe = [home]
    here = home
    steps = 0
    known = []
    for place in order[:-1]:
        nearest = look_out(ways, safe, here, place)
        if nearest is None:
            return None
        here = nearest[1]
        steps = steps + nearest[0] + IN_AND_BACK
        known.append(steps)
        safe.append(place)
    if len(order) > 0:
        # The last one isn't looked into: it's known as the one ahead of it is.
        known.append(steps)
    return known


def all_but(size, home):
    """All places but home, the least first."""
    return [place for place in range(size) if place != home]


def orders_of(places):
    """All orders of the places, the first first."""
    orders = [[]]
    for turn in places:
        longer = []
        for order in orders:
            longer.extend([order + [place] for place in places if place not in order])
        orders = longer
    return orders


def at_worst(known):
    """Behind how many steps it's known at worst."""
    return max(known, default=0)


def all_together(known):
    """How many steps these are all together."""
    return sum(known)


def best_order(ways, home, steps_of):
    """The least of what steps_of tells of an order, and the first order of which it does; the net hangs together."""
    best = None
    for order in orders_of(all_but(len(ways), home)):
        known = steps_known(ways, home, order)
        if known is not None and (best is None or steps_of(known) < best[0]):
            best = (steps_of(known), order)
    return best
