"""The net: the exits of its places, the ways by a word, and which places are told apart.

The ways of a net are a list with one row for each place: its exits in order, each as a pair
of the place it leads to and the exit of that place by which one comes in.
"""


def ways_of(size, links):
    """The ways of a net of so many places with these links."""
    ways = [[] for place in range(size)]
    for u, v in links:
        # Both numbers are read first: each end's exit is told by the other's row.
        from_u = len(ways[u])
        from_v = len(ways[v])
        ways[u].append((v, from_v))
        ways[v].append((u, from_u))
    return ways


def is_linked(links, u, v):
    """Whether there's a link between u and v, whichever was told first."""
    return (u, v) in links or (v, u) in links


def leads_out(ways, place, letter):
    """Whether one goes out of the place by the letter, and doesn't stay."""
    return 1 <= letter <= len(ways[place])


def led_to(ways, place, letter):
    """The place where one is behind the letter."""
    if leads_out(ways, place, letter):
        return ways[place][letter - 1][0]
    return place


def came_in(ways, place, letter):
    """One more than the exit by which one came in by the letter; 0, if one stayed."""
    if leads_out(ways, place, letter):
        return ways[place][letter - 1][1] + 1
    return 0


def walked(ways, start, word):
    """The places one is in by the word, from the start on."""
    places = [start]
    for letter in word:
        places.append(led_to(ways, places[-1], letter))
    return places


def most_exits(ways):
    """The most exits that a place has."""
    return max([len(row) for row in ways])


def distances_among(ways, among, start):
    """Of each place how few steps lead to it from the start by those places; None, if none do."""
    far = [None for row in ways]
    far[start] = 0
    line = [start]
    at = 0
    while at < len(line):
        here = line[at]
        for place, entry in ways[here]:
            if far[place] is None and place in among:
                far[place] = far[here] + 1
                line.append(place)
        at = at + 1
    return far


def distances_from(ways, start):
    """Of each place how few steps lead to it from the start; None, if none do."""
    return distances_among(ways, list(range(len(ways))), start)


def hangs_together(ways):
    """Whether from each place one comes to each."""
    # Each link is gone both ways, so from all of them one comes to place 0 if from there to all.
    return None not in distances_from(ways, 0)


def least_like(marks):
    """Of each place the least place with the same mark."""
    return [marks.index(mark) for mark in marks]


def mark_beyond(row, classes):
    """What one step tells of a place with this row: by which exits one comes in, and to which classes."""
    return [(entry, classes[place]) for place, entry in row]


def classes_by_steps(ways):
    """For 0, 1, .. steps the least place that each isn't told apart from in so many, till more tell no more."""
    by_steps = [least_like([len(row) for row in ways])]
    while True:
        finer = least_like([mark_beyond(row, by_steps[-1]) for row in ways])
        if finer == by_steps[-1]:
            return by_steps
        by_steps.append(finer)


def classes_of(ways):
    """The class of each place."""
    return classes_by_steps(ways)[-1]


def steps_apart(ways, u, v):
    """In how few steps u and v are told apart; None, if they're alike."""
    for steps, classes in enumerate(classes_by_steps(ways)):
        if classes[u] != classes[v]:
            return steps
    return None
