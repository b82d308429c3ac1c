"""The calls on one object, read off one list and answered one behind another.

What answers a call is given the object and the list of the call's arguments, its row, if it has
one, as the last. It gives back the numbers that are answered; a refusal is its number alone.
"""

from netwanderers.places import came_in, classes_of, is_linked, steps_apart, walked
from netwanderers.wanderers import Wanderers, set_out, stepped, with_pebble

MOST_PLACES = 7
MOST_LINKS = 10
MOST_LETTERS = 30

NOT_THERE = -2
NONE_SUCH = -6
ALREADY = -17
WRONG = -22
FULL = -28
NOT_SO = -33
NOT_BEGUN = -61


def begin(wanderers, given):
    size = given[0]
    if not 1 <= size <= MOST_PLACES:
        return [WRONG]
    wanderers.begin(set_out(size, (), 0, 0))
    return [0]


def link(wanderers, given):
    now = wanderers.now
    u = given[0]
    v = given[1]
    if u == v:
        return [WRONG]
    if is_linked(now.links, u, v):
        return [ALREADY]
    if len(now.links) == MOST_LINKS:
        return [FULL]
    wanderers.change(set_out(now.size, now.links + ((u, v),), now.a, now.b))
    return [len(now.links)]


def unlink(wanderers, given):
    now = wanderers.now
    gone = given[0]
    if gone >= len(now.links):
        return [NOT_THERE]
    left = now.links[:gone] + now.links[gone + 1:]
    wanderers.change(set_out(now.size, left, now.a, now.b))
    return [len(left)]


def stand(wanderers, given):
    now = wanderers.now
    wanderers.change(set_out(now.size, now.links, given[0], given[1]))
    return [0]


def step(wanderers, given):
    before = wanderers.now
    wanderers.change(stepped(before, given[0], given[1]))
    now = wanderers.now
    seen_by_a = [came_in(before.ways, before.a, given[0]), len(now.ways[now.a])]
    seen_by_b = [came_in(before.ways, before.b, given[1]), len(now.ways[now.b])]
    return [1 if now.a == now.b else 0] + seen_by_a + seen_by_b


def put(wanderers, given):
    now = wanderers.now
    if now.pebble is not None:
        return [ALREADY]
    wanderers.change(with_pebble(now, now.a))
    return [0]


def take(wanderers, given):
    now = wanderers.now
    if now.pebble is None:
        return [ALREADY]
    if now.pebble != now.a:
        return [NOT_SO]
    wanderers.change(with_pebble(now, None))
    return [0]


def back(wanderers, given):
    if len(wanderers.past) == 0:
        return [NONE_SUCH]
    wanderers.take_back()
    return [len(wanderers.past)]


def looks(wanderers, given):
    now = wanderers.now
    if given[0] > 1:
        return [NOT_THERE]
    place = now.a if given[0] == 0 else now.b
    return [len(now.ways[place]), 1 if now.pebble == place else 0, 1 if now.a == now.b else 0]


def exits(wanderers, given):
    row = wanderers.now.ways[given[0]]
    answer = [len(row)]
    for place, entry in row:
        answer.append(place)
        answer.append(entry)
    return answer


def walk(wanderers, given):
    word = given[1]
    if len(word) > MOST_LETTERS:
        return [WRONG]
    places = walked(wanderers.now.ways, given[0], word)
    return [len(places)] + places


def apart(wanderers, given):
    steps = steps_apart(wanderers.now.ways, given[0], given[1])
    if steps is None:
        return [NONE_SUCH]
    return [steps]


def classes(wanderers, given):
    return [wanderers.now.size] + classes_of(wanderers.now.ways)


def unanswered(wanderers, given):
    # A call that isn't written yet answers no numbers, so that none can be taken for its answer.
    return []


# Of each call, by its number: what answers it, how many whole numbers it has, how many of these,
# from the first on, have to be places, and how many rows stand behind them.
CALLS = (
    (begin, 1, 0, 0),
    (link, 2, 2, 0),
    (unlink, 1, 0, 0),
    (stand, 2, 2, 0),
    (step, 2, 0, 0),
    (put, 0, 0, 0),
    (take, 0, 0, 0),
    (back, 0, 0, 0),
    (looks, 1, 0, 0),
    (exits, 1, 1, 0),
    (walk, 1, 1, 1),
    (apart, 2, 2, 0),
    (classes, 0, 0, 0),
    # distance
    (unanswered, 2, 2, 0),
    # near
    (unanswered, 2, 2, 0),
    # meets
    (unanswered, 1, 0, 1),
    # can
    (unanswered, 1, 0, 0),
    # found
    (unanswered, 1, 0, 0),
    # soonest
    (unanswered, 1, 1, 0),
    # mean
    (unanswered, 1, 1, 0),
    # known
    (unanswered, 1, 1, 1),
    # pebble
    (unanswered, 2, 2, 0),
    # same
    (unanswered, 2, 2, 0),
    # count
    (unanswered, 0, 0, 0),
    # state
    (unanswered, 0, 0, 0),
)
BEGIN = 0


def length_of(calls, at):
    """How many numbers the call that stands there has, with its own number."""
    call = CALLS[calls[at]]
    length = 1 + call[1]
    if call[3] == 1:
        length = length + 1 + calls[at + length]
    return length


def arguments_of(calls, at):
    """The arguments of the call that stands there, its row as the last."""
    call = CALLS[calls[at]]
    row_at = at + 1 + call[1]
    given = calls[at + 1:row_at]
    if call[3] == 1:
        given.append(calls[row_at + 1:row_at + 1 + calls[row_at]])
    return given


def answer_of(wanderers, number, given):
    """The numbers that are answered to one call."""
    call = CALLS[number]
    if number != BEGIN:
        if wanderers.now is None:
            return [NOT_BEGUN]
        if any([place >= wanderers.now.size for place in given[:call[2]]]):
            return [NOT_THERE]
    answer = call[0]
    return answer(wanderers, given)


def answers(calls):
    """For each call of the list how many numbers are answered, and these."""
    wanderers = Wanderers()
    told = []
    at = 0
    while at < len(calls):
        answer = answer_of(wanderers, calls[at], arguments_of(calls, at))
        told.append(len(answer))
        told.extend(answer)
        at = at + length_of(calls, at)
    return told
