"""With a pebble: which places are told apart by it, and from which the net is the same.

One who wanders alone with a pebble is a pair: the place, and the place where the pebble lies, None, if
it's carried.
"""

from netwanderers.places import came_in, led_to, most_exits
from netwanderers.words import first_word

PUT = 1
TAKE = 2


def bare(letter):
    """The letter without a pebble by which one goes likewise."""
    return max(letter - TAKE, 0)


def gone(ways, one, letter):
    """How one stands behind the letter."""
    place = one[0]
    lies = one[1]
    if letter == PUT and lies is None:
        return (place, place)
    if letter == TAKE and lies == place:
        return (place, None)
    return (led_to(ways, place, bare(letter)), lies)


def sight(ways, one):
    """What's seen at the place: how many exits it has, and how it is with the pebble."""
    if one[1] is None:
        return (len(ways[one[0]]), 2)
    return (len(ways[one[0]]), 1 if one[1] == one[0] else 0)


def pebble_word(ways, u, v):
    """The shortest word that tells u and v apart with a pebble, of like ones the first; None, if none does."""

    def unless_apart(first, second):
        return (first, second) if sight(ways, first) == sight(ways, second) else None

    def go(pair, letter):
        entries = [came_in(ways, one[0], bare(letter)) for one in pair]
        if entries[0] != entries[1]:
            return None
        return unless_apart(gone(ways, pair[0], letter), gone(ways, pair[1], letter))

    def is_end(pair):
        return pair is None

    return first_word(unless_apart((u, None), (v, None)), most_exits(ways) + TAKE, go, is_end)


def naming(ways, u, v):
    """By which place each is named, u by v, where the net hangs together; None, if it isn't the same from both."""
    names = {u: v}
    line = [u]
    at = 0
    while at < len(line):
        place = line[at]
        name = names[place]
        if [entry for there, entry in ways[place]] != [entry for there, entry in ways[name]]:
            return None
        for way, named in zip(ways[place], ways[name]):
            if way[0] not in names:
                names[way[0]] = named[0]
                line.append(way[0])
            if names[way[0]] != named[0]:
                return None
        at = at + 1
    # Each place is a name once: beside a name stand names, so where all hangs together each place is one,
    # and there are no more of them than places to be named.
    return [names[place] for place in range(len(ways))]
