"""What the tests share: calls written by name, and answers split call by call."""

from netwanderers.nets import answers

NAMES = (
    "begin", "link", "unlink", "stand", "step", "put", "take", "back", "looks", "exits", "walk", "apart", "classes",
    "distance", "near", "meets", "can", "found", "soonest", "mean", "known", "pebble", "same", "count", "state",
)


def numbers_of(calls):
    """The list that stands for calls such as ("link", 0, 1) or ("walk", 0, [1, 2])."""
    numbers = []
    for call in calls:
        numbers.append(NAMES.index(call[0]))
        for argument in call[1:]:
            if isinstance(argument, list):
                numbers.append(len(argument))
                numbers.extend(argument)
            else:
                numbers.append(argument)
    return numbers


def split(told):
    """What's answered to each call, one list each."""
    rows = []
    at = 0
    while at < len(told):
        rows.append(told[at + 1:at + 1 + told[at]])
        at += 1 + told[at]
    if at != len(told):
        raise AssertionError("the last answer has fewer numbers than it tells")
    return rows


def ask(calls):
    """What's answered to each of the calls."""
    rows = split(answers(numbers_of(calls)))
    if len(rows) != len(calls):
        raise AssertionError("not one answer for each call")
    return rows


def last(calls):
    """What's answered to the last of the calls."""
    return ask(calls)[-1]


def net(size, links):
    """The calls that lay a net."""
    return [("begin", size)] + [("link", u, v) for u, v in links]


def ring(size):
    """A ring: each place leads back by its exit 0 and on by its exit 1, only place 0 the other way round."""
    return net(size, [(place, (place + 1) % size) for place in range(size)])


FULL = net(7, [(0, 1), (0, 2), (0, 3), (0, 4), (0, 5), (0, 6), (1, 2), (2, 3), (3, 4), (4, 5)])

# One of each call that comes in the next stage.
LATER = [
    ("distance", 0, 0), ("near", 0, 0), ("meets", 0, [0, 5, 7]), ("can", 0), ("found", 0), ("soonest", 0),
    ("mean", 0), ("known", 0, [0, 7]), ("pebble", 0, 0), ("same", 0, 0), ("count",), ("state",),
]
