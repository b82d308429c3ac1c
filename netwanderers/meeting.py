"""Two who look for each other by the same word: how near they come, and by which word they meet."""

from netwanderers.places import distances_from, led_to, most_exits, walked
from netwanderers.words import first_word


def word_as_near(ways, far, start, steps):
    """The first word that leads the pair to places so many steps from one another; None, if none does."""

    def go(pair, letter):
        return (led_to(ways, pair[0], letter), led_to(ways, pair[1], letter))

    def is_end(pair):
        return far[pair[0]][pair[1]] == steps

    return first_word(start, most_exits(ways), go, is_end)


def nearest(ways, u, v):
    """How near those from u and v come, and the first word by which they do, where the net hangs together."""
    far = [distances_from(ways, place) for place in range(len(ways))]
    steps = 0
    word = word_as_near(ways, far, (u, v), steps)
    while word is None:
        steps = steps + 1
        word = word_as_near(ways, far, (u, v), steps)
    return (steps, word)


def meeting(ways, u, v, later, word):
    """Behind how many steps they meet by the word, and where; None, if they don't."""
    waiting = [0] * later
    first = walked(ways, u, word + waiting)
    second = walked(ways, v, waiting + word)
    for steps, place in enumerate(first):
        if second[steps] == place:
            return (steps, place)
    return None


def meeting_word(ways, u, v, later):
    """The shortest word the first goes by till they meet, of like ones the first; None, if they meet by none."""

    def go(moment, letter):
        # The letters between the two are those that the second has still to go by.
        between = moment[2] + (letter,)
        return (led_to(ways, moment[0], letter), led_to(ways, moment[1], between[0]), between[1:])

    def is_end(moment):
        return moment[0] == moment[1]

    return first_word((u, v, (0,) * later), most_exits(ways), go, is_end)
