"""Promise 3, as far as distance, near, meets, can and found go."""

import itertools
import random
import unittest

from tests.helper import (
    EVEN_RING, EVEN_ROW, FULL, HUGE, apart_by_hand, ask, distances_by_hand, exits_by_hand, found_by_hand,
    hangs_together_by_hand, last, meets_by_hand, most, near_by_hand, net, nets_of, random_links, ring, told,
)

ROW = net(4, [(0, 1), (1, 2), (2, 3)])
APART = net(4, [(0, 1), (2, 3)])
# Six places, all alike, though the net isn't the same from all of them.
PRISM = net(6, [(0, 4), (1, 3), (2, 5), (3, 0), (2, 1), (4, 5), (1, 4), (5, 0), (2, 3)])
# Five places, one of them beside all others.
STAR = net(5, [(0, 1), (0, 2), (0, 3), (0, 4)])
# Six places, one of them beside all others: it has five exits.
GREAT_STAR = net(6, [(0, 1), (0, 2), (0, 3), (0, 4), (0, 5)])


class Distance(unittest.TestCase):
    def test_how_few_steps(self):
        self.assertEqual(told(ROW, [("distance", 0, place) for place in range(4)]), [[0], [1], [2], [3]])
        self.assertEqual(told(ring(7), [("distance", 2, place) for place in range(7)]), [
            [2], [1], [0], [1], [2], [3], [3],
        ])

    def test_either_way_it_is_as_far(self):
        pairs = list(itertools.product(range(7), repeat=2))
        there = told(FULL, [("distance", u, v) for u, v in pairs])
        self.assertEqual(there, told(FULL, [("distance", v, u) for u, v in pairs]))

    def test_no_steps_lead_there(self):
        self.assertEqual(told(APART, [("distance", 0, 1), ("distance", 0, 2), ("distance", 3, 1)]), [[1], [-33], [-33]])

    def test_one_place_and_no_links(self):
        self.assertEqual(last([("begin", 1), ("distance", 0, 0)]), [0])
        self.assertEqual(told([("begin", 2)], [("distance", 1, 1), ("distance", 0, 1)]), [[0], [-33]])

    def test_a_link_gone(self):
        calls = [("distance", 0, 3), ("unlink", 3), ("distance", 0, 3), ("unlink", 1), ("distance", 0, 3), ("back",)]
        self.assertEqual(told(ring(4), calls + [("distance", 0, 3)]), [[1], [3], [3], [2], [-33], [5], [3]])


class Near(unittest.TestCase):
    def test_a_place_and_itself(self):
        self.assertEqual(told(FULL, [("near", place, place) for place in range(7)]), [[0, 0]] * 7)
        self.assertEqual(last([("begin", 1), ("near", 0, 0)]), [0, 0])

    def test_nearer_than_at_first(self):
        self.assertEqual(last(net(4, EVEN_ROW) + [("near", 0, 3)]), [1, 1, 1])
        self.assertEqual(last(net(4, EVEN_ROW) + [("near", 1, 2)]), [1, 0])

    def test_in_several_steps(self):
        row = net(6, [(2, 3), (1, 2), (3, 4), (0, 1), (4, 5)])
        self.assertEqual(told(row, [("near", 0, 5), ("near", 1, 4), ("near", 3, 2)]), [
            [1, 2, 1, 1], [1, 1, 1], [1, 0],
        ])

    def test_never_nearer(self):
        self.assertEqual(told(net(4, EVEN_RING), [("near", 0, place) for place in range(4)]), [
            [0, 0], [1, 0], [2, 0], [1, 0],
        ])

    def test_of_like_words_the_first(self):
        # From 0 and 2 both 1 and 2 lead to places one step from one another, from 0 and 1 both 2 and 3 do.
        self.assertEqual(told(PRISM, [("near", 0, 2), ("near", 0, 1)]), [[1, 1, 1], [1, 1, 2]])

    def test_places_that_are_not_alike(self):
        self.assertEqual(told(ROW, [("near", 0, 1), ("near", 0, 3), ("near", 1, 2)]), [[-33]] * 3)

    def test_a_net_that_does_not_hang_together(self):
        # 0 and 2 are alike, 0 and 4 are not: -35 is told ahead of -33.
        calls = net(5, [(0, 1), (2, 3)])
        self.assertEqual(told(calls, [("near", 0, 2), ("near", 0, 4), ("near", 0, 0), ("near", 0, 5)]), [
            [-35], [-35], [-35], [-2],
        ])
        self.assertEqual(last([("begin", 2), ("near", 0, 0)]), [-35])


class Meets(unittest.TestCase):
    def test_both_in_one_place_at_first(self):
        calls = [("stand", 2, 2), ("meets", 0, []), ("meets", 20, [1] * 30), ("meets", 1, [])]
        self.assertEqual(told(ROW, calls), [[0], [0, 2], [0, 2], [0, 2]])

    def test_both_go_at_once(self):
        calls = [("stand", 0, 3), ("meets", 0, [1, 1]), ("meets", 0, [1, 2]), ("meets", 0, [1])]
        self.assertEqual(told(ROW, calls), [[0], [-33], [-33], [-33]])
        calls = [("stand", 0, 2), ("meets", 0, [1]), ("meets", 0, [0, 0, 1, 1]), ("meets", 0, [0, 0])]
        self.assertEqual(told(ROW, calls), [[0], [1, 1], [3, 1], [-33]])

    def test_the_one_who_stands_is_met(self):
        # The first comes to 3 behind three steps; the second stands there till then, or goes and comes back.
        calls = [("stand", 0, 3), ("meets", 3, [1, 2, 2]), ("meets", 20, [1, 2, 2]), ("meets", 2, [1, 2, 2])]
        self.assertEqual(told(ROW, calls), [[0], [3, 3], [3, 3], [4, 3]])

    def test_behind_the_word_the_first_stands(self):
        # Behind its word the first stands, and the second comes to it.
        calls = [("stand", 0, 2), ("meets", 5, [1]), ("meets", 20, [1]), ("meets", 1, [1, 1]), ("meets", 5, [1, 2])]
        self.assertEqual(told(ROW, calls), [[0], [6, 1], [21, 1], [3, 0], [2, 2]])

    def test_they_pass_each_other(self):
        calls = net(2, [(0, 1)]) + [("stand", 0, 1)]
        self.assertEqual(told(calls, [("meets", 0, [1] * 30), ("meets", 1, [1]), ("meets", 1, [0, 1])]), [
            [-33], [1, 1], [2, 1],
        ])

    def test_a_is_the_first(self):
        calls = net(3, [(0, 1), (1, 2)])
        self.assertEqual(told(calls, [("stand", 0, 1), ("meets", 2, [1])]), [[0], [1, 1]])
        self.assertEqual(told(calls, [("stand", 1, 0), ("meets", 2, [1])]), [[0], [1, 0]])
        self.assertEqual(told(calls, [("stand", 1, 0), ("meets", 2, [0, 2])]), [[0], [-33]])
        self.assertEqual(told(calls, [("stand", 0, 1), ("meets", 2, [0, 2])]), [[0], [-33]])
        self.assertEqual(told(calls, [("stand", 0, 1), ("meets", 2, [0, 1])]), [[0], [2, 1]])

    def test_from_where_they_are(self):
        calls = [("stand", 0, 3), ("step", 0, 1), ("meets", 0, [1]), ("back",), ("meets", 0, [1])]
        self.assertEqual(told(ROW, calls), [[0], [0, 0, 1, 2, 2], [1, 1], [4], [-33]])

    def test_thirty_letters_and_more(self):
        calls = net(2, [(0, 1)]) + [("stand", 0, 1)]
        self.assertEqual(last(calls + [("meets", 0, [0] * 30)]), [-33])
        self.assertEqual(last(calls + [("meets", 1, [0] * 29 + [1])]), [30, 1])
        self.assertEqual(last(calls + [("meets", 1, [0] * 30 + [1])]), [-22])
        self.assertEqual(last(calls + [("meets", 0, [0] * 31)]), [-22])
        self.assertEqual(last(calls + [("meets", 0, [1] * 40)]), [-22])
        # Even where they're in one place at first.
        self.assertEqual(last([("begin", 1), ("meets", 0, [0] * 31)]), [-22])

    def test_twenty_steps_later_and_more(self):
        calls = net(2, [(0, 1)]) + [("stand", 0, 1)]
        self.assertEqual(told(calls, [("meets", 20, [0] * 10 + [1]), ("meets", 21, [1]), ("meets", HUGE, [])]), [
            [11, 1], [-22], [-22],
        ])
        self.assertEqual(last([("begin", 1), ("meets", 21, [])]), [-22])
        self.assertEqual(last([("begin", 1), ("meets", 21, [0] * 31)]), [-22])

    def test_the_longest_way(self):
        # The first goes 30 letters, then stands 20 steps; the second comes to it as its word ends.
        word = [0] * 29 + [1]
        self.assertEqual(last(ROW + [("stand", 0, 2), ("meets", 20, word)]), [50, 1])

    def test_no_such_exit_is_as_staying(self):
        calls = ROW + [("stand", 0, 2)]
        self.assertEqual(told(calls, [("meets", 0, [HUGE, 3, 1]), ("meets", 0, [2]), ("meets", 0, [2, 1])]), [
            [3, 1], [-33], [-33],
        ])

    def test_a_net_that_does_not_hang_together(self):
        calls = APART + [("stand", 0, 1)]
        self.assertEqual(told(calls, [("meets", 1, [1]), ("stand", 0, 2), ("meets", 1, [1])]), [[1, 1], [0], [-33]])
        self.assertEqual(told([("begin", 2)], [("meets", 0, []), ("stand", 1, 0), ("meets", 3, [1, 1])]), [
            [0, 0], [0], [-33],
        ])


class Can(unittest.TestCase):
    def test_both_in_one_place(self):
        self.assertEqual(told(net(4, EVEN_RING), [("stand", 2, 2), ("can", 0), ("can", HUGE)]), [[0], [1], [1]])
        self.assertEqual(last([("begin", 1), ("can", 0)]), [1])

    def test_places_that_are_not_alike(self):
        self.assertEqual(told(ROW, [("stand", 0, 3), ("can", 0), ("can", 3)]), [[0], [1], [1]])

    def test_alike_places_by_how_near_they_come(self):
        calls = [("stand", 0, 2), ("can", 0), ("can", 1), ("can", 2), ("can", 3), ("can", HUGE)]
        self.assertEqual(told(net(4, EVEN_RING), calls), [[0], [0], [0], [1], [1], [1]])
        # At first they're three steps from one another, behind one step no more than one.
        calls = [("stand", 0, 3), ("can", 0), ("can", 1), ("can", 2)]
        self.assertEqual(told(net(4, EVEN_ROW), calls), [[0], [0], [1], [1]])

    def test_a_net_that_does_not_hang_together(self):
        calls = [("can", 0), ("stand", 0, 2), ("can", 0), ("can", HUGE), ("stand", 0, 1), ("can", 1)]
        self.assertEqual(told(APART, calls), [[-35], [0], [-35], [-35], [0], [-35]])
        self.assertEqual(last([("begin", 2), ("can", 1)]), [-35])


class Found(unittest.TestCase):
    def test_both_in_one_place_at_first(self):
        self.assertEqual(told(ROW, [("stand", 3, 3), ("found", 0), ("found", 2)]), [[0], [0], [0]])
        self.assertEqual(told([("begin", 1)], [("found", 0), ("found", 1), ("found", 2)]), [[0], [0], [0]])

    def test_both_go_at_once(self):
        self.assertEqual(told(ROW, [("stand", 0, 2), ("found", 0)]), [[0], [1, 1]])
        # Behind 1 and 2 they're in 2 and 3; then by 2 one goes, and the other stays.
        self.assertEqual(told(ROW, [("stand", 0, 3), ("found", 0)]), [[0], [3, 1, 2, 2]])

    def test_the_one_who_stands_is_met(self):
        calls = [("stand", 0, 1), ("found", 1), ("stand", 0, 2), ("found", 2), ("stand", 1, 2), ("found", 1)]
        self.assertEqual(told(ROW, calls), [[0], [1, 1], [0], [2, 1, 2], [0], [1, 2]])

    def test_zero_where_the_first_stands(self):
        # The first goes from 3 to 0, behind a word of one letter, and stands; the second comes from 4 to 0 by it.
        calls = net(5, [(4, 0), (2, 1), (4, 1), (0, 3), (4, 2)]) + [("stand", 3, 4)]
        self.assertEqual(told(calls, [("meets", 1, [1]), ("found", 1)]), [[2, 0], [2, 1, 0]])
        # Here it stands between two letters.
        calls = net(5, [(2, 1), (0, 2), (2, 4), (0, 4), (1, 3), (4, 1)]) + [("stand", 0, 3)]
        self.assertEqual(told(calls, [("meets", 2, [1, 0, 1]), ("found", 2)]), [[3, 1], [3, 1, 0, 1]])

    def test_of_like_words_the_first(self):
        # By 1 and by 2 they meet likewise, from 2 and 3, which both are beside 0 and 1.
        calls = net(4, [(2, 0), (3, 0), (2, 1), (3, 1)]) + [("stand", 2, 3)]
        self.assertEqual(told(calls, [("meets", 0, [1]), ("meets", 0, [2]), ("found", 0)]), [[1, 0], [1, 1], [1, 1]])
        self.assertEqual(told(STAR, [("stand", 1, 2), ("found", 0), ("found", 1), ("found", 2)]), [
            [0], [1, 1], [2, 1, 0], [2, 1, 2],
        ])

    def test_by_no_word(self):
        calls = [("stand", 0, 2), ("found", 0), ("found", 1), ("found", 2)]
        self.assertEqual(told(net(4, EVEN_RING), calls), [[0], [-33], [-33], [2, 1, 2]])
        self.assertEqual(told(net(2, [(0, 1)]), [("stand", 0, 1), ("found", 0), ("found", 1)]), [[0], [-33], [1, 1]])

    def test_two_steps_later_and_more(self):
        self.assertEqual(told(ROW, [("found", 2), ("found", 3), ("found", HUGE)]), [[0], [-75], [-75]])

    def test_four_exits_and_five(self):
        self.assertEqual(told(STAR, [("found", 0), ("found", 2)]), [[0], [0]])
        self.assertEqual(told(GREAT_STAR, [("found", 0), ("stand", 1, 2), ("found", 2)]), [[-75], [0], [-75]])
        self.assertEqual(told(GREAT_STAR, [("unlink", 4), ("found", 0)]), [[4], [-35]])

    def test_a_net_that_does_not_hang_together(self):
        self.assertEqual(told(APART, [("found", 0), ("found", 3), ("stand", 0, 2), ("found", 1)]), [
            [-35], [-35], [0], [-35],
        ])
        calls = net(7, [(0, place) for place in range(1, 6)])
        self.assertEqual(last(calls + [("found", 0)]), [-35])

    def test_too_much_is_told_ahead_of_by_no_word(self):
        self.assertEqual(told(net(2, [(0, 1)]), [("stand", 0, 1), ("found", 3)]), [[0], [-75]])

    def test_a_letter_by_which_only_one_goes(self):
        # Only place 0 has a fourth exit, by which the first comes to the second, who stays.
        self.assertEqual(told(STAR, [("stand", 0, 4), ("meets", 0, [4]), ("found", 0)]), [[0], [1, 4], [1, 4]])


class AgainstWordByWord(unittest.TestCase):
    def check(self, size, links):
        rows = exits_by_hand(size, links)
        far = distances_by_hand(rows)
        together = hangs_together_by_hand(rows)
        for u, v in itertools.product(range(size), repeat=2):
            calls = [("stand", u, v), ("distance", u, v), ("near", u, v)] + [("can", later) for later in range(4)]
            got = told(net(size, links), calls + [("found", later) for later in range(3)])
            where = (size, links, u, v)
            self.assertEqual(got[1], [-33 if far[(u, v)] is None else far[(u, v)]], where)
            if not together:
                self.assertEqual(got[2:], [[-35]] * 8, where)
                continue
            alike = apart_by_hand(rows, u, v) == -6
            near = near_by_hand(rows, u, v) if alike else [-33]
            self.assertEqual(got[2], near, where)
            self.assertEqual(got[3:7], [[0 if alike and near[0] > later else 1] for later in range(4)], where)
            self.assertEqual(got[7:], [found_by_hand(rows, u, v, later) for later in range(3)], where)

    def test_all_nets_of_up_to_three_places(self):
        for size in range(1, 4):
            for links in nets_of(size, 3):
                self.check(size, links)

    def test_nets_of_four_places(self):
        for links in itertools.islice(nets_of(4, 5), 0, None, 53):
            self.check(4, links)

    def test_six_places_that_are_alike(self):
        links = [call[1:] for call in PRISM[1:]]
        rows = exits_by_hand(6, links)
        pairs = list(itertools.product(range(6), repeat=2))
        self.assertEqual(told(PRISM, [("near", u, v) for u, v in pairs]), [near_by_hand(rows, u, v) for u, v in pairs])

    def test_meets_step_by_step(self):
        source = random.Random(6)
        for row in range(300):
            size = source.randrange(1, 8)
            links = random_links(source, size, source.randrange(11))
            rows = exits_by_hand(size, links)
            u, v, later = source.randrange(size), source.randrange(size), source.randrange(21)
            word = [source.randrange(most(rows) + 2) for letter in range(source.randrange(31))]
            expected = meets_by_hand(rows, u, v, later, word) or [-33]
            got = last(net(size, links) + [("stand", u, v), ("meets", later, word)])
            self.assertEqual(got, expected, (size, links, u, v, later, word))


class Asking(unittest.TestCase):
    def test_nobody_goes(self):
        calls = ROW + [("stand", 0, 2), ("put",), ("step", 0, 0), ("state",), ("count",)]
        asked = [("distance", 0, 3), ("near", 0, 0), ("meets", 0, [1]), ("can", 1), ("found", 1), ("state",), ("count",)]
        rows = ask(calls + asked)
        self.assertEqual(rows[-2:], rows[len(calls) - 2:len(calls)])


if __name__ == "__main__":
    unittest.main()
