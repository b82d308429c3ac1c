"""Promise 5: pebble and same."""

import itertools
import random
import unittest

from netwanderers.pebbles import gone, naming, pebble_word, sight
from netwanderers.places import ways_of
from tests.helper import (
    EVEN_RING, EVEN_ROW, FULL, ever_apart_with_pebble_by_hand, exits_by_hand, hangs_together_by_hand, last,
    namings_by_hand, net, nets_of, pebble_by_hand, random_links, ring, told, with_pebble_by_hand,
)

ROW = net(4, [(0, 1), (1, 2), (2, 3)])
APART = net(4, [(0, 1), (2, 3)])
SIX_RING = [(0, 1), (2, 3), (4, 5), (1, 2), (3, 4), (5, 0)]
# Six places, all alike, though the net isn't the same from all of them.
PRISM = [(0, 4), (1, 3), (2, 5), (3, 0), (2, 1), (4, 5), (1, 4), (5, 0), (2, 3)]


class Pebble(unittest.TestCase):
    def test_told_apart_at_first_sight(self):
        self.assertEqual(last(ROW + [("pebble", 0, 1)]), [0])
        self.assertEqual(told(net(3, [(0, 1)]), [("pebble", 0, 2), ("pebble", 2, 1)]), [[0], [0]])

    def test_told_apart_by_the_exit_one_comes_in_by(self):
        self.assertEqual(last(ROW + [("pebble", 0, 3)]), [1, 3])
        self.assertEqual(last(net(3, [(2, 1), (0, 1)]) + [("pebble", 0, 2)]), [1, 3])

    def test_told_apart_in_two_steps(self):
        calls = net(5, [(3, 4), (2, 4), (1, 3), (0, 2)])
        self.assertEqual(told(calls, [("pebble", 0, 1), ("pebble", 1, 0)]), [[2, 3, 3], [2, 3, 3]])

    def test_of_like_words_the_first(self):
        # By either exit 1 and 2 are told apart, in a row and, behind two letters, 2 and 3 in a ring.
        self.assertEqual(last(ROW + [("pebble", 1, 2)]), [1, 3])
        self.assertEqual(last(ring(5) + [("pebble", 2, 3)]), [2, 3, 3])

    def test_never_told_apart(self):
        self.assertEqual(told(net(4, EVEN_RING), [("pebble", 0, place) for place in range(4)]), [[-6]] * 4)
        self.assertEqual(told(net(4, EVEN_ROW), [("pebble", 0, 3), ("pebble", 2, 1)]), [[-6], [-6]])

    def test_a_place_and_itself(self):
        self.assertEqual(told(ring(5), [("pebble", place, place) for place in range(5)]), [[-6]] * 5)
        self.assertEqual(last([("begin", 1), ("pebble", 0, 0)]), [-6])

    def test_no_links(self):
        self.assertEqual(told([("begin", 5)], [("pebble", 0, 4), ("pebble", 2, 2)]), [[-6], [-6]])

    def test_a_net_that_does_not_hang_together(self):
        self.assertEqual(told(APART, [("pebble", 0, 2), ("pebble", 1, 2)]), [[-6], [-6]])
        self.assertEqual(told(net(5, [(0, 1), (2, 3), (3, 4)]), [("pebble", 0, 2), ("pebble", 0, 4)]), [[1, 3], [1, 3]])

    def test_five_places_and_six(self):
        self.assertEqual(last(ring(5) + [("pebble", 0, 1)]), [1, 4])
        self.assertEqual(told(ring(6), [("pebble", 0, 1), ("pebble", 2, 2)]), [[-75], [-75]])
        self.assertEqual(told([("begin", 7)], [("pebble", 0, 1), ("pebble", 6, 7)]), [[-75], [-2]])

    def test_where_the_pebble_of_a_lies_is_nothing_to_it(self):
        calls = ROW + [("put",), ("step", 1, 0), ("pebble", 0, 3), ("looks", 1)]
        self.assertEqual(last(calls[:-1]), [1, 3])
        self.assertEqual(last(calls), [1, 1, 0])


class WithThePebble(unittest.TestCase):
    """The words of places that only the pebble tells apart: of those there are none below six places."""

    def test_it_tells_apart_what_is_alike(self):
        ways = ways_of(6, PRISM)
        self.assertEqual(pebble_word(ways, 0, 1), [1, 3, 4, 5])
        self.assertEqual(pebble_word(ways, 1, 2), [1, 3, 5, 4])
        self.assertEqual(pebble_word(ways, 0, 3), None)

    def test_word_by_word(self):
        rows = exits_by_hand(6, PRISM)
        self.assertEqual([4] + pebble_word(ways_of(6, PRISM), 1, 2), pebble_by_hand(rows, 1, 2))

    def test_just_where_the_net_is_not_the_same(self):
        rows = exits_by_hand(6, PRISM)
        for u, v in itertools.product(range(6), repeat=2):
            word = pebble_word(ways_of(6, PRISM), u, v)
            self.assertEqual(word is None, len(namings_by_hand(rows, u, v)) == 1, (u, v))
            self.assertEqual(word is None, not ever_apart_with_pebble_by_hand(rows, u, v), (u, v))

    def test_put_take_and_what_cannot_be_done(self):
        ways = ways_of(3, [(0, 1), (1, 2)])
        self.assertEqual([gone(ways, (1, None), letter) for letter in range(6)], [
            (1, None), (1, 1), (1, None), (0, None), (2, None), (1, None),
        ])
        self.assertEqual([gone(ways, (1, 1), letter) for letter in range(6)], [
            (1, 1), (1, 1), (1, None), (0, 1), (2, 1), (1, 1),
        ])
        self.assertEqual([gone(ways, (1, 0), letter) for letter in range(6)], [
            (1, 0), (1, 0), (1, 0), (0, 0), (2, 0), (1, 0),
        ])

    def test_what_is_seen_of_it(self):
        ways = ways_of(3, [(0, 1), (1, 2)])
        self.assertEqual([sight(ways, one) for one in ((1, None), (1, 1), (1, 0), (0, 0))], [
            (2, 2), (2, 1), (2, 0), (1, 1),
        ])

    def test_along_words(self):
        source = random.Random(8)
        for row in range(200):
            size = source.randrange(1, 6)
            links = random_links(source, size, source.randrange(8))
            rows, ways = exits_by_hand(size, links), ways_of(size, links)
            one = (source.randrange(size), None)
            word = [source.randrange(7) for letter in range(12)]
            sights, behind = with_pebble_by_hand(rows, one[0], word)
            seen = [sight(ways, one)]
            for letter in word:
                one = gone(ways, one, letter)
                seen.append(sight(ways, one))
            self.assertEqual((seen, one), ([row[1:] for row in sights], behind), (size, links, word))


class Same(unittest.TestCase):
    def test_a_place_and_itself(self):
        self.assertEqual(told(FULL, [("same", place, place) for place in range(7)]), [[7, 0, 1, 2, 3, 4, 5, 6]] * 7)
        self.assertEqual(last([("begin", 1), ("same", 0, 0)]), [1, 0])

    def test_each_place_by_another(self):
        self.assertEqual(told(net(4, EVEN_RING), [("same", 0, place) for place in range(1, 4)]), [
            [4, 1, 0, 3, 2], [4, 2, 3, 0, 1], [4, 3, 2, 1, 0],
        ])
        self.assertEqual(told(net(4, EVEN_ROW), [("same", 0, 3), ("same", 1, 2)]), [[4, 3, 2, 1, 0], [4, 3, 2, 1, 0]])

    def test_the_first_is_named_by_the_second(self):
        self.assertEqual(told(net(6, SIX_RING), [("same", 0, 2), ("same", 2, 0), ("same", 0, 1), ("same", 3, 5)]), [
            [6, 2, 3, 4, 5, 0, 1], [6, 4, 5, 0, 1, 2, 3], [6, 1, 0, 5, 4, 3, 2], [6, 2, 3, 4, 5, 0, 1],
        ])

    def test_not_the_same(self):
        self.assertEqual(told(ROW, [("same", 0, 1), ("same", 0, 3), ("same", 1, 2)]), [[-33]] * 3)
        self.assertEqual(told(ring(7), [("same", 3, 4), ("same", 4, 5)]), [[-33], [-33]])

    def test_not_the_same_though_alike(self):
        calls = [("apart", 0, 1), ("same", 0, 1), ("apart", 0, 3), ("same", 0, 3)]
        self.assertEqual(told(net(6, PRISM), calls), [[-6], [-33], [-6], [6, 3, 4, 5, 0, 1, 2]])

    def test_a_net_that_does_not_hang_together(self):
        # With 0 and 1 named by 2 and 3 it would be the same; from 0 and 4 it isn't.
        calls = net(5, [(0, 1), (2, 3)])
        self.assertEqual(told(calls, [("same", 0, 2), ("same", 0, 4), ("same", 0, 0), ("same", 5, 0)]), [
            [-35], [-35], [-35], [-2],
        ])
        self.assertEqual(last([("begin", 2), ("same", 0, 1)]), [-35])

    def test_a_link_gone(self):
        calls = [("same", 0, 3), ("unlink", 0), ("same", 1, 2), ("back",), ("unlink", 3), ("same", 0, 3)]
        self.assertEqual(told(net(4, EVEN_RING), calls), [
            [4, 3, 2, 1, 0], [3], [-33], [4], [3], [4, 3, 2, 1, 0],
        ])


class AgainstWordByWord(unittest.TestCase):
    def check(self, size, links):
        rows = exits_by_hand(size, links)
        together = hangs_together_by_hand(rows)
        pairs = list(itertools.product(range(size), repeat=2))
        self.assertEqual(told(net(size, links), [("pebble", u, v) for u, v in pairs]), [
            pebble_by_hand(rows, u, v) for u, v in pairs
        ], (size, links))
        namings = [namings_by_hand(rows, u, v) for u, v in pairs]
        expected = [[size] + found[0] if found else [-33] for found in namings]
        self.assertEqual(told(net(size, links), [("same", u, v) for u, v in pairs]), [
            row if together else [-35] for row in expected
        ], (size, links))

    def test_all_nets_of_up_to_three_places(self):
        for size in range(1, 4):
            for links in nets_of(size, 3):
                self.check(size, links)

    def test_nets_of_four_and_five_places(self):
        for size, most_links, every in ((4, 6, 41), (5, 4, 211)):
            for links in itertools.islice(nets_of(size, most_links), 0, None, every):
                self.check(size, links)

    def test_six_and_seven_places(self):
        source = random.Random(9)
        for row in range(40):
            size = source.randrange(6, 8)
            links = random_links(source, size, source.randrange(5, 11))
            rows = exits_by_hand(size, links)
            if hangs_together_by_hand(rows):
                u, v = source.randrange(size), source.randrange(size)
                found = namings_by_hand(rows, u, v)
                self.assertEqual(naming(ways_of(size, links), u, v), found[0] if found else None, (size, links, u, v))
        rows = exits_by_hand(6, PRISM)
        for u, v in itertools.product(range(6), repeat=2):
            found = namings_by_hand(rows, u, v)
            self.assertEqual(last(net(6, PRISM) + [("same", u, v)]), [6] + found[0] if found else [-33], (u, v))


if __name__ == "__main__":
    unittest.main()
