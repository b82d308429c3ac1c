"""The two who really wander, a and b: how all stands with them, and what can be taken back."""

from netwanderers.places import led_to, ways_of

MOST_BACK = 10


class Moment:
    """How all stands between two calls. A change makes another and leaves this one as it is."""

    def __init__(self, size, links, a, b, pebble, steps, met):
        self.size = size
        self.links = links
        self.ways = ways_of(size, links)
        self.a = a
        self.b = b
        # The place where the pebble lies; None, if it's carried.
        self.pebble = pebble
        self.steps = steps
        self.met = met


def set_out(size, links, a, b):
    """The moment in which the pebble is carried, no steps were made, and they never met."""
    return Moment(size, links, a, b, None, 0, 0)


def stepped(moment, x, y):
    """The moment behind a step, a by letter x, b by letter y."""
    a = led_to(moment.ways, moment.a, x)
    b = led_to(moment.ways, moment.b, y)
    met = moment.met + 1 if a == b else moment.met
    return Moment(moment.size, moment.links, a, b, moment.pebble, moment.steps + 1, met)


def with_pebble(moment, pebble):
    """The same moment but for the pebble."""
    return Moment(moment.size, moment.links, moment.a, moment.b, pebble, moment.steps, moment.met)


class Wanderers:
    """One object: how all stands now, and the moments ahead of the last changes."""

    def __init__(self):
        # None, as long as nothing has begun.
        self.now = None
        self.past = []

    def begin(self, moment):
        """Begin with this moment: what was before can't be taken back."""
        self.now = moment
        self.past = []

    def change(self, moment):
        """Go over to this moment, so that it can be taken back."""
        self.past.append(self.now)
        if len(self.past) > MOST_BACK:
            self.past.pop(0)
        self.now = moment

    def take_back(self):
        """Take the last change back."""
        self.now = self.past.pop()
