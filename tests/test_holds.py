"""What holds over the whole program, a to d, on small nets, each checked in another way than the program goes."""

import itertools
import random
import unittest

from tests.helper import (
    ALL_BUT_BEGIN, ask, ever_apart_with_pebble_by_hand, ever_meet_by_hand, exits_by_hand, goes,
    hangs_together_by_hand, last, meets_by_hand, most, namings_by_hand, net, nets_of, orders_by_hand, random_calls,
    random_links, told,
)

CHANGES = ("link", "unlink", "stand", "step", "put", "take")


def small_nets():
    """Nets that hang together: all of up to three places, and some of four and five."""
    chosen = [(size, links) for size in (1, 2, 3) for links in nets_of(size, 3)]
    chosen += [(4, links) for links in itertools.islice(nets_of(4, 6), 0, None, 37)]
    chosen += [(5, links) for links in itertools.islice(nets_of(5, 5), 0, None, 499)]
    return [(size, links) for size, links in chosen if hangs_together_by_hand(exits_by_hand(size, links))]


class TheyMeetOrDoNot(unittest.TestCase):
    """a. Told that they can't meet, they don't. By the word found they meet as it ends, by none sooner."""

    def check(self, size, links, u, v, later):
        rows = exits_by_hand(size, links)
        where = (size, links, u, v, later)
        can, found = told(net(size, links) + [("stand", u, v)], [("can", later), ("found", later)])
        if can == [0]:
            self.assertFalse(ever_meet_by_hand(rows, u, v, later), where)
            self.assertEqual(found, [-33], where)
        letters = range(most(rows) + 1)
        if found == [-33]:
            for word in itertools.product(letters, repeat=4):
                self.assertIsNone(meets_by_hand(rows, u, v, later, word), where)
            return
        met = meets_by_hand(rows, u, v, later, found[1:])
        self.assertEqual([met[0], len(found) - 1], [found[0], found[0]], where)
        for word in itertools.product(letters, repeat=min(found[0], 4)):
            sooner = meets_by_hand(rows, u, v, later, word)
            self.assertTrue(sooner is None or sooner[0] >= found[0], where)

    def test_on_small_nets(self):
        for size, links in small_nets():
            for u, v, later in itertools.product(range(size), range(size), range(3)):
                self.check(size, links, u, v, later)

    def test_where_all_are_alike(self):
        for size, links in ((4, [(0, 1), (2, 3), (1, 2), (3, 0)]), (6, [(0, 1), (2, 3), (4, 5), (1, 2), (3, 4), (5, 0)])):
            for v, later in itertools.product(range(size), range(3)):
                self.check(size, links, 0, v, later)

    def test_later_by_however_many_steps(self):
        # On the ring of six 0 and 2 stay two steps from one another.
        laid = net(6, [(0, 1), (2, 3), (4, 5), (1, 2), (3, 4), (5, 0)]) + [("stand", 0, 2)]
        self.assertEqual(told(laid, [("can", later) for later in range(4)]), [[0], [0], [1], [1]])
        for later in range(2):
            words = itertools.product(range(3), repeat=5)
            rows = told(laid, [("meets", later, list(word)) for word in words])
            self.assertEqual(rows, [[-33]] * 243)
        self.assertEqual(last(laid + [("meets", 2, [1, 2])]), [2, 2])


class NoOrderTellsSooner(unittest.TestCase):
    """b. No order of looking tells sooner, at worst, which place swallows."""

    def looked(self, rows, home, order, swallows):
        """Behind how many steps it's known which place swallows, both gone with step by step."""
        safe, at, steps = {home}, home, 0
        for place in order[:-1]:
            # One step after another they spread over the safe places, till one is beside it.
            ring, far = {at}, 0
            while not any(place in [way[0] for way in rows[here]] for here in ring):
                ring = ring | {way[0] for here in ring for way in rows[here] if way[0] in safe}
                far += 1
            at = min(here for here in ring if place in [way[0] for way in rows[here]])
            steps += far + 2
            if place == swallows:
                return steps
            safe.add(place)
        return steps

    def test_on_small_nets(self):
        for size, links in small_nets():
            rows = exits_by_hand(size, links)
            for home in range(size):
                answer = last(net(size, links) + [("soonest", home)])
                places = [place for place in range(size) if place != home]
                where = (size, links, home)
                worst = max([self.looked(rows, home, answer[1:], place) for place in places], default=0)
                self.assertEqual(answer[0], worst, where)
                for order, known in orders_by_hand(rows, home):
                    steps = [self.looked(rows, home, order, place) for place in order]
                    self.assertEqual(steps, known, where)
                    self.assertLessEqual(answer[0], max(steps, default=0), where)


class ThePebbleTellsWhatIsNotTheSame(unittest.TestCase):
    """c. Two places are never told apart with a pebble just if the net is the same from both."""

    def test_on_small_nets(self):
        for size, links in small_nets():
            rows = exits_by_hand(size, links)
            pairs = list(itertools.product(range(size), repeat=2))
            pebble = told(net(size, links), [("pebble", u, v) for u, v in pairs])
            same = told(net(size, links), [("same", u, v) for u, v in pairs])
            for pair, with_pebble, named in zip(pairs, pebble, same):
                where = (size, links, pair)
                never = not ever_apart_with_pebble_by_hand(rows, pair[0], pair[1])
                self.assertEqual([with_pebble == [-6], named != [-33]], [never, never], where)
                self.assertEqual(never, len(namings_by_hand(rows, pair[0], pair[1])) == 1, where)


class Replayed:
    """The object as the changes tell that were made and not taken back, all of them made anew each time."""

    def __init__(self):
        self.size = None
        self.changes = []
        self.back = 0

    def behind(self):
        """Links, both places, the pebble, steps and meetings behind the changes."""
        links, a, b, lies, steps, met = [], 0, 0, None, 0, 0
        for change in self.changes:
            name, given = change[0], change[1:]
            rows = exits_by_hand(self.size, links)
            if name == "link":
                links = links + [given]
            elif name == "unlink":
                links = links[:given[0]] + links[given[0] + 1:]
            elif name == "stand":
                a, b = given
            elif name == "step":
                a, b, steps = goes(rows, a, given[0]), goes(rows, b, given[1]), steps + 1
                met += 1 if a == b else 0
            else:
                lies = a if name == "put" else None
            if name in ("link", "unlink", "stand"):
                lies, steps, met = None, 0, 0
        return links, a, b, lies, steps, met

    def take_note(self, call, answer):
        """Take note of a call and what was answered first."""
        if answer < 0:
            return
        if call[0] == "begin":
            self.size, self.changes, self.back = call[1], [], 0
        elif call[0] == "back":
            self.changes.pop()
            self.back -= 1
        elif call[0] in CHANGES:
            self.changes.append(call)
            self.back = min(self.back + 1, 10)

    def told(self):
        """What state and count are to answer."""
        links, a, b, lies, steps, met = self.behind()
        together = hangs_together_by_hand(exits_by_hand(self.size, links))
        state = [self.size, a, b, 0 if lies is None else lies + 1, 1 if together else 0, self.back, len(links)]
        return [state + list(itertools.chain(*links)), [steps, met]]


class TakenBackAllIsAsItWas(unittest.TestCase):
    """d. Taken back all is as it was. What's refused, and asking, changes nothing."""

    ASKED = [("state",), ("count",)]

    def test_against_changes_made_anew(self):
        source = random.Random(3)
        for row in range(60):
            calls = random_calls(source, 60)
            calls = calls[:40] + [("back",)] * source.randrange(12) + calls[40:]
            asked = list(itertools.chain(*([call] + self.ASKED for call in calls)))
            rows = ask(asked)
            replayed = Replayed()
            for many, call in enumerate(calls):
                replayed.take_note(call, rows[3 * many][0])
                self.assertEqual(rows[3 * many + 1:3 * many + 3], replayed.told(), calls[:many + 1])

    def test_a_change_and_back(self):
        source = random.Random(11)
        for row in range(150):
            calls = random_calls(source, 25)
            places = range(7)
            asked = self.ASKED + [("exits", place) for place in places] + [("looks", 0), ("looks", 1), ("classes",)]
            asked += [("near", 0, 1), ("can", 1), ("found", 1), ("soonest", 0), ("pebble", 0, 1), ("same", 0, 1)]
            change = source.choice([call for call in random_calls(source, 40) if call[0] in CHANGES])
            rows = told(calls, [change, ("back",)] + asked)
            if rows[0][0] < 0:
                continue
            expected = told(calls, asked)
            # Of ten that can be taken back the first is gone with the eleventh.
            expected[0][5] = min(expected[0][5], 9)
            self.assertEqual(rows[2:], expected, calls + [change])

    def test_asking_and_refused_calls_change_nothing(self):
        source = random.Random(12)
        for row in range(60):
            size = source.randrange(2, 8)
            laid = net(size, random_links(source, size, source.randrange(11)))
            laid += [("stand", source.randrange(size), source.randrange(size)), ("step", 1, 2), ("put",), ("step", 1, 1)]
            wrong = [
                ("begin", 0), ("begin", 8), ("link", 0, 0), ("link", 0, 7), ("unlink", 10), ("stand", 0, 7), ("put",),
                ("meets", 21, []), ("known", 0, [0]), ("found", 3), ("near", 0, 7), ("looks", 2),
            ]
            idle = [call for call in ALL_BUT_BEGIN if call[0] not in CHANGES + ("back",)] + wrong
            rows = told(laid, self.ASKED + list(itertools.chain(*([call] + self.ASKED for call in idle))))
            for many in range(len(idle)):
                self.assertEqual(rows[3 * many + 3:3 * many + 5], rows[:2], (laid, idle[many]))


if __name__ == "__main__":
    unittest.main()
