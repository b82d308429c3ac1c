"""The calls on one object, read off one list and answered one behind another.

What answers a call is given the object and the list of the call's arguments, its row, if it has
one, as the last. It gives back the numbers that are answered; a refusal is its number alone.
"""

from netwanderers.meeting import meeting, meeting_word, nearest
from netwanderers.pebbles import naming, pebble_word
from netwanderers.places import came_in, classes_of, distances_from, hangs_together, is_linked, most_exits
from netwanderers.places import steps_apart, walked
from netwanderers.swallowing import all_but, all_together, at_worst, best_order, steps_known
from netwanderers.wanderers import Wanderers, set_out, stepped, with_pebble

MOST_PLACES = 7
MOST_LINKS = 10
MOST_LETTERS = 30
MOST_LATER = 20
MOST_LATER_FOUND = 2
MOST_EXITS_FOUND = 4
MOST_PLACES_LOOKED = 6
MOST_PLACES_PEBBLE = 5

NOT_THERE = -2
NONE_SUCH = -6
ALREADY = -17
WRONG = -22
FULL = -28
NOT_SO = -33
NOT_TOGETHER = -35
NOT_BEGUN = -61
TOO_MUCH = -75


def begin(wanderers, given):
    size = given[0]
    if not 1 <= size <= MOST_PLACES:
        return [WRONG]
    wanderers.begin(set_out(size, (), 0, 0))
    return [0]


def link(wanderers, given):
    now = wanderers.now
    u = given[0]
    v = given[1]
    if u == v:
        return [WRONG]
    if is_linked(now.links, u, v):
        return [ALREADY]
    if len(now.links) == MOST_LINKS:
        return [FULL]
    wanderers.change(set_out(now.size, now.links + ((u, v),), now.a, now.b))
    return [len(now.links)]


def unlink(wanderers, given):
    now = wanderers.now
    gone = given[0]
    if gone >= len(now.links):
        return [NOT_THERE]
    left = now.links[:gone] + now.links[gone + 1:]
    wanderers.change(set_out(now.size, left, now.a, now.b))
    return [len(left)]


def stand(wanderers, given):
    now = wanderers.now
    wanderers.change(set_out(now.size, now.links, given[0], given[1]))
    return [0]


def step(wanderers, given):
    before = wanderers.now
    wanderers.change(stepped(before, given[0], given[1]))
    now = wanderers.now
    seen_by_a = [came_in(before.ways, before.a, given[0]), len(now.ways[now.a])]
    seen_by_b = [came_in(before.ways, before.b, given[1]), len(now.ways[now.b])]
    return [1 if now.a == now.b else 0] + seen_by_a + seen_by_b


def put(wanderers, given):
    now = wanderers.now
    if now.pebble is not None:
        return [ALREADY]
    wanderers.change(with_pebble(now, now.a))
    return [0]


def take(wanderers, given):
    now = wanderers.now
    if now.pebble is None:
        return [ALREADY]
    if now.pebble != now.a:
        return [NOT_SO]
    wanderers.change(with_pebble(now, None))
    return [0]


def back(wanderers, given):
    if len(wanderers.past) == 0:
        return [NONE_SUCH]
    wanderers.take_back()
    return [len(wanderers.past)]


def looks(wanderers, given):
    now = wanderers.now
    if given[0] > 1:
        return [NOT_THERE]
    place = now.a if given[0] == 0 else now.b
    return [len(now.ways[place]), 1 if now.pebble == place else 0, 1 if now.a == now.b else 0]


def exits(wanderers, given):
    row = wanderers.now.ways[given[0]]
    answer = [len(row)]
    for place, entry in row:
        answer.append(place)
        answer.append(entry)
    return answer


def walk(wanderers, given):
    word = given[1]
    if len(word) > MOST_LETTERS:
        return [WRONG]
    places = walked(wanderers.now.ways, given[0], word)
    return [len(places)] + places


def apart(wanderers, given):
    steps = steps_apart(wanderers.now.ways, given[0], given[1])
    if steps is None:
        return [NONE_SUCH]
    return [steps]


def classes(wanderers, given):
    return [wanderers.now.size] + classes_of(wanderers.now.ways)


def distance(wanderers, given):
    steps = distances_from(wanderers.now.ways, given[0])[given[1]]
    if steps is None:
        return [NOT_SO]
    return [steps]


def near(wanderers, given):
    ways = wanderers.now.ways
    if steps_apart(ways, given[0], given[1]) is not None:
        return [NOT_SO]
    best = nearest(ways, given[0], given[1])
    return [best[0], len(best[1])] + best[1]


def meets(wanderers, given):
    now = wanderers.now
    later = given[0]
    word = given[1]
    if len(word) > MOST_LETTERS or later > MOST_LATER:
        return [WRONG]
    met = meeting(now.ways, now.a, now.b, later, word)
    if met is None:
        return [NOT_SO]
    return list(met)


def can(wanderers, given):
    now = wanderers.now
    if steps_apart(now.ways, now.a, now.b) is not None:
        return [1]
    return [1 if nearest(now.ways, now.a, now.b)[0] <= given[0] else 0]


def found(wanderers, given):
    now = wanderers.now
    if given[0] > MOST_LATER_FOUND or most_exits(now.ways) > MOST_EXITS_FOUND:
        return [TOO_MUCH]
    word = meeting_word(now.ways, now.a, now.b, given[0])
    if word is None:
        return [NOT_SO]
    return [len(word)] + word


def soonest(wanderers, given):
    now = wanderers.now
    if now.size > MOST_PLACES_LOOKED:
        return [TOO_MUCH]
    best = best_order(now.ways, given[0], at_worst)
    return [best[0]] + best[1]


def mean(wanderers, given):
    now = wanderers.now
    if now.size > MOST_PLACES_LOOKED:
        return [TOO_MUCH]
    best = best_order(now.ways, given[0], all_together)
    return [best[0]] + best[1]


def known(wanderers, given):
    now = wanderers.now
    order = given[1]
    if sorted(order) != all_but(now.size, given[0]):
        return [WRONG]
    steps = steps_known(now.ways, given[0], order)
    if steps is None:
        return [NOT_SO]
    return [len(steps)] + steps


def pebble(wanderers, given):
    now = wanderers.now
    if now.size > MOST_PLACES_PEBBLE:
        return [TOO_MUCH]
    word = pebble_word(now.ways, given[0], given[1])
    if word is None:
        return [NONE_SUCH]
    return [len(word)] + word


def same(wanderers, given):
    names = naming(wanderers.now.ways, given[0], given[1])
    if names is None:
        return [NOT_SO]
    return [len(names)] + names


def count(wanderers, given):
    return [wanderers.now.steps, wanderers.now.met]


def state(wanderers, given):
    now = wanderers.now
    lies = 0 if now.pebble is None else now.pebble + 1
    together = 1 if hangs_together(now.ways) else 0
    answer = [now.size, now.a, now.b, lies, together, len(wanderers.past), len(now.links)]
    for u, v in now.links:
        answer.extend([u, v])
    return answer


# Of each call, by its number: what answers it, how many whole numbers it has, how many of these,
# from the first on, have to be places, how many rows stand behind them, and whether the net has to
# hang together.
CALLS = (
    (begin, 1, 0, 0, False),
    (link, 2, 2, 0, False),
    (unlink, 1, 0, 0, False),
    (stand, 2, 2, 0, False),
    (step, 2, 0, 0, False),
    (put, 0, 0, 0, False),
    (take, 0, 0, 0, False),
    (back, 0, 0, 0, False),
    (looks, 1, 0, 0, False),
    (exits, 1, 1, 0, False),
    (walk, 1, 1, 1, False),
    (apart, 2, 2, 0, False),
    (classes, 0, 0, 0, False),
    (distance, 2, 2, 0, False),
    (near, 2, 2, 0, True),
    (meets, 1, 0, 1, False),
    (can, 1, 0, 0, True),
    (found, 1, 0, 0, True),
    (soonest, 1, 1, 0, True),
    (mean, 1, 1, 0, True),
    (known, 1, 1, 1, False),
    (pebble, 2, 2, 0, False),
    (same, 2, 2, 0, True),
    (count, 0, 0, 0, False),
    (state, 0, 0, 0, False),
)
BEGIN = 0


def length_of(calls, at):
    """How many numbers the call that stands there has, with its own number."""
    call = CALLS[calls[at]]
    length = 1 + call[1]
    if call[3] == 1:
        length = length + 1 + calls[at + length]
    return length


def arguments_of(calls, at):
    """The arguments of the call that stands there, its row as the last."""
    call = CALLS[calls[at]]
    row_at = at + 1 + call[1]
    given = calls[at + 1:row_at]
    if call[3] == 1:
        given.append(calls[row_at + 1:row_at + 1 + calls[row_at]])
    return given


def answer_of(wanderers, number, given):
    """The numbers that are answered to one call."""
    call = CALLS[number]
    if number != BEGIN:
        if wanderers.now is None:
            return [NOT_BEGUN]
        if any([place >= wanderers.now.size for place in given[:call[2]]]):
            return [NOT_THERE]
        if call[4] and not hangs_together(wanderers.now.ways):
            return [NOT_TOGETHER]
    answer = call[0]
    return answer(wanderers, given)


def answers(calls):
    """For each call of the list how many numbers are answered, and these."""
    wanderers = Wanderers()
    told = []
    at = 0
    while at < len(calls):
        answer = answer_of(wanderers, calls[at], arguments_of(calls, at))
        told.append(len(answer))
        told.extend(answer)
        at = at + length_of(calls, at)
    return told
