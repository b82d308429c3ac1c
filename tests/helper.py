"""What the tests share: calls written by name, answers split call by call, and nets gone over by hand.

What's done by hand here is done in another way than the program does it, or word by word.
"""

import itertools

from netwanderers.nets import answers

HUGE = 4294967295

NAMES = (
    "begin", "link", "unlink", "stand", "step", "put", "take", "back", "looks", "exits", "walk", "apart", "classes",
    "distance", "near", "meets", "can", "found", "soonest", "mean", "known", "pebble", "same", "count", "state",
)


def numbers_of(calls):
    """The list that stands for calls such as ("link", 0, 1) or ("walk", 0, [1, 2])."""
    numbers = []
    for call in calls:
        numbers.append(NAMES.index(call[0]))
        for argument in call[1:]:
            if isinstance(argument, list):
                numbers.append(len(argument))
                numbers.extend(argument)
            else:
                numbers.append(argument)
    return numbers


def split(told):
    """What's answered to each call, one list each."""
    rows = []
    at = 0
    while at < len(told):
        rows.append(told[at + 1:at + 1 + told[at]])
        at += 1 + told[at]
    if at != len(told):
        raise AssertionError("the last answer has fewer numbers than it tells")
    return rows


def ask(calls):
    """What's answered to each of the calls."""
    rows = split(answers(numbers_of(calls)))
    if len(rows) != len(calls):
        raise AssertionError("not one answer for each call")
    return rows


def last(calls):
    """What's answered to the last of the calls."""
    return ask(calls)[-1]


def told(before, calls):
    """What's answered to these calls, behind those before."""
    return ask(before + calls)[len(before):]


def net(size, links):
    """The calls that lay a net."""
    return [("begin", size)] + [("link", u, v) for u, v in links]


def ring(size):
    """A ring: each place leads back by its exit 0 and on by its exit 1, only place 0 the other way round."""
    return net(size, [(place, (place + 1) % size) for place in range(size)])


FULL = net(7, [(0, 1), (0, 2), (0, 3), (0, 4), (0, 5), (0, 6), (1, 2), (2, 3), (3, 4), (4, 5)])

# A ring and a row that are the same from several places.
EVEN_RING = [(0, 1), (2, 3), (1, 2), (3, 0)]
EVEN_ROW = [(1, 2), (0, 1), (2, 3)]

# One of each call but begin.
ALL_BUT_BEGIN = [
    ("link", 0, 1), ("unlink", 0), ("stand", 0, 0), ("step", 0, 0), ("put",), ("take",), ("back",), ("looks", 0),
    ("exits", 0), ("walk", 0, [1]), ("apart", 0, 0), ("classes",), ("distance", 0, 0), ("near", 0, 0),
    ("meets", 0, [0, 5, 7]), ("can", 0), ("found", 0), ("soonest", 0), ("mean", 0), ("known", 0, [0, 7]),
    ("pebble", 0, 0), ("same", 0, 0), ("count",), ("state",),
]


def nets_of(size, most_links):
    """All rows of links, in any order, of so many places."""
    pairs = list(itertools.combinations(range(size), 2))
    for many in range(min(most_links, len(pairs)) + 1):
        for links in itertools.permutations(pairs, many):
            yield list(links)


def random_links(source, size, many):
    """So many links, or as many as there can be, either way round."""
    pairs = [source.choice([(u, v), (v, u)]) for u, v in itertools.combinations(range(size), 2)]
    return source.sample(pairs, min(many, len(pairs)))


def exits_by_hand(size, links):
    """Of each place where its exits lead and by which exit one comes in, looked up link by link."""
    own = [[link for link in links if place in link] for place in range(size)]
    rows = []
    for place in range(size):
        row = []
        for link in own[place]:
            other = link[1] if link[0] == place else link[0]
            row.append((other, own[other].index(link)))
        rows.append(row)
    return rows


def most(rows):
    """The most exits that a place has."""
    return max(len(row) for row in rows)


def goes(rows, place, letter):
    """Where one is behind a letter."""
    return rows[place][letter - 1][0] if 0 < letter <= len(rows[place]) else place


def seen(rows, place, word):
    """What's seen by a word from a place."""
    sights = [len(rows[place])]
    for letter in word:
        entry = 0
        if letter > 0 and letter <= len(rows[place]):
            place, came_by = rows[place][letter - 1]
            entry = came_by + 1
        sights.extend([entry, len(rows[place])])
    return sights


def apart_by_hand(rows, u, v):
    """In how few steps two places are told apart, word by word; -6, if by none of as many letters as places."""
    letters = range(most(rows) + 2)
    for length in range(len(rows) + 1):
        for word in itertools.product(letters, repeat=length):
            if seen(rows, u, word) != seen(rows, v, word):
                return length
    return -6


def distances_by_hand(rows, among=None):
    """How far it is from each place to each, by places of those among alone; None, if no steps lead there."""
    places = range(len(rows)) if among is None else among
    far = {(u, v): 0 if u == v else None for u in places for v in places}
    for u in places:
        for v, entry in rows[u]:
            if v in places:
                far[(u, v)] = 1
    for between, u, v in itertools.product(places, repeat=3):
        if far[(u, between)] is not None and far[(between, v)] is not None:
            through = far[(u, between)] + far[(between, v)]
            far[(u, v)] = through if far[(u, v)] is None else min(through, far[(u, v)])
    return far


def hangs_together_by_hand(rows):
    """Whether each place is some steps from each."""
    return None not in distances_by_hand(rows).values()


def all_reached(starts, beyond):
    """All that's reached, however far, where beyond tells what's one step on."""
    reached = set(starts)
    while True:
        more = {there for here in reached for there in beyond(here)} - reached
        if not more:
            return reached
        reached |= more


def words(letters):
    """All words of so many letters from 0 on, the shorter ones and then the lesser ones first."""
    for length in itertools.count():
        yield from itertools.product(range(letters), repeat=length)


def meets_by_hand(rows, u, v, later, word):
    """Behind how many steps they meet by the word, and where, step by step; None, if they don't."""
    for steps in range(len(word) + later + 1):
        if steps > 0 and steps <= len(word):
            u = goes(rows, u, word[steps - 1])
        if steps > later:
            v = goes(rows, v, word[steps - later - 1])
        if u == v:
            return [steps, u]
    return None


def ever_meet_by_hand(rows, u, v, later):
    """Whether there's a word by which they meet, however long."""
    letters = range(most(rows) + 1)

    def beyond(here):
        first, second, queue = here
        for letter in letters:
            rest = queue + (letter,)
            if len(rest) > later:
                yield (goes(rows, first, letter), goes(rows, second, rest[0]), rest[1:])
            else:
                # The second hasn't begun yet.
                yield (goes(rows, first, letter), second, rest)

    return any(first == second for first, second, queue in all_reached([(u, v, ())], beyond))


def found_by_hand(rows, u, v, later):
    """The answer of found: of all words those by which they meet soonest, each with 0 where the first stands."""
    if not ever_meet_by_hand(rows, u, v, later):
        return [-33]
    for steps in itertools.count():
        gone_by = []
        for length in range(steps + 1):
            for word in itertools.product(range(most(rows) + 1), repeat=length):
                met = meets_by_hand(rows, u, v, later, word)
                if met is not None and met[0] == steps:
                    gone_by.append(list(word) + [0] * (steps - length))
        if gone_by:
            return [steps] + min(gone_by)


def walked_to(rows, place, word):
    """Where one is behind a word."""
    for letter in word:
        place = goes(rows, place, letter)
    return place


def near_by_hand(rows, u, v):
    """The answer of near for two alike places, all words tried one behind another."""
    far = distances_by_hand(rows)
    letters = range(most(rows) + 1)
    pairs = all_reached([(u, v)], lambda pair: [(goes(rows, pair[0], x), goes(rows, pair[1], x)) for x in letters])
    least = min(far[pair] for pair in pairs)
    for word in words(most(rows) + 1):
        if far[(walked_to(rows, u, word), walked_to(rows, v, word))] == least:
            return [least, len(word)] + list(word)


def known_by_hand(rows, home, order):
    """Of each place of an order behind how many steps it's known; None, if it can't be gone by."""
    at, steps, known = home, 0, []
    for many, place in enumerate(order[:-1]):
        safe = [home] + list(order[:many])
        far = distances_by_hand(rows, safe)
        beside = sorted((far[(at, other)], other) for other in safe if place in [way[0] for way in rows[other]])
        if not beside:
            return None
        steps, at = steps + beside[0][0] + 2, beside[0][1]
        known.append(steps)
    return known + known[-1:] if known else [0] * len(order)


def orders_by_hand(rows, home):
    """All orders that can be gone by, the first first, each with what's known by it."""
    places = [place for place in range(len(rows)) if place != home]
    orders = [(list(order), known_by_hand(rows, home, order)) for order in itertools.permutations(places)]
    return [(order, known) for order, known in orders if known is not None]


def with_pebble_by_hand(rows, place, word):
    """What's seen by a word with a pebble, and how one stands behind it: the place, and where the pebble lies."""
    lies = None
    sights = []
    for letter in [None] + list(word):
        entry = 0
        if letter == 1 and lies is None:
            lies = place
        elif letter == 2 and lies == place:
            lies = None
        elif letter is not None and letter > 2 and letter - 3 < len(rows[place]):
            place, came_by = rows[place][letter - 3]
            entry = came_by + 1
        sights.append((entry, len(rows[place]), 2 if lies is None else 1 if lies == place else 0))
    return sights, (place, lies)


def ever_apart_with_pebble_by_hand(rows, u, v):
    """Whether some word tells the places apart with a pebble, however long: marks are made finer till they stay."""
    stands = [(place, lies) for place in range(len(rows)) for lies in [None] + list(range(len(rows)))]

    def one_letter(stand, letter):
        place, lies = stand
        entry = 0
        if letter == 1 and lies is None:
            lies = place
        elif letter == 2 and lies == place:
            lies = None
        elif letter > 2 and letter - 3 < len(rows[place]):
            place, entry = rows[place][letter - 3][0], rows[place][letter - 3][1] + 1
        return (place, lies), entry

    marks = {s: (len(rows[s[0]]), 2 if s[1] is None else 1 if s[1] == s[0] else 0) for s in stands}
    while True:
        finer = {}
        for stand in stands:
            beyond = [one_letter(stand, letter) for letter in range(most(rows) + 3)]
            finer[stand] = (marks[stand],) + tuple((marks[there], entry) for there, entry in beyond)
        numbers = {mark: number for number, mark in enumerate(sorted(set(finer.values()), key=repr))}
        if len(numbers) == len(set(marks.values())):
            return marks[(u, None)] != marks[(v, None)]
        marks = {stand: numbers[finer[stand]] for stand in stands}


def pebble_by_hand(rows, u, v):
    """The answer of pebble, all words tried one behind another."""
    if not ever_apart_with_pebble_by_hand(rows, u, v):
        return [-6]
    for word in words(most(rows) + 3):
        if with_pebble_by_hand(rows, u, word)[0] != with_pebble_by_hand(rows, v, word)[0]:
            return [len(word)] + list(word)


def namings_by_hand(rows, u, v):
    """All namings, u by v, with which the net is the same."""
    namings = []
    for names in itertools.permutations(range(len(rows))):
        if names[u] == v:
            named = [[(names[place], entry) for place, entry in row] for row in rows]
            if all(named[place] == rows[names[place]] for place in range(len(rows))):
                namings.append(list(names))
    return namings


def random_calls(source, many):
    """Calls of every kind, begin first, some of them refused."""
    calls = [("begin", source.randrange(1, 8))]
    while len(calls) < many:
        name = source.choice(NAMES[1:] + ("link",) * 12 + ("step", "stand") * 3 + NAMES[:1])
        if name in ("link", "stand", "apart", "distance", "near", "pebble", "same"):
            calls.append((name, source.randrange(8), source.randrange(8)))
        elif name == "step":
            calls.append((name, source.randrange(5), source.randrange(5)))
        elif name in ("walk", "meets"):
            word = [source.randrange(5) for letter in range(source.choice([0, 1, 3, 9, 30, 31, 40]))]
            calls.append((name, source.choice([0, 1, 2, 4, 6, 20, 21]), word))
        elif name == "known":
            places = list(range(source.randrange(1, 8)))
            source.shuffle(places)
            calls.append((name, places[0], places[1:]))
        elif name in ("looks", "can", "found"):
            calls.append((name, source.randrange(4)))
        elif name in ("begin", "unlink", "exits", "soonest", "mean"):
            calls.append((name, source.randrange(9)))
        else:
            calls.append((name,))
    return calls
