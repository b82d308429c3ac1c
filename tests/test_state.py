"""Promise 2, as far as count and state go, and what is kept of what can be taken back."""

import itertools
import unittest

from netwanderers.nets import answer_of
from netwanderers.wanderers import Wanderers
from tests.helper import FULL, NAMES, ask, exits_by_hand, hangs_together_by_hand, last, net, nets_of, ring, told

PAIR = net(2, [(0, 1)])


class Count(unittest.TestCase):
    def test_none_at_first_though_both_are_in_one_place(self):
        self.assertEqual(last([("begin", 1), ("count",)]), [0, 0])

    def test_each_step_counts_and_each_behind_which_they_are_in_one_place(self):
        steps = [("step", 0, 0), ("step", 1, 0), ("step", 0, 1), ("step", 1, 1), ("step", 1, 9)]
        counted = [last(PAIR + steps[:many] + [("count",)]) for many in range(6)]
        self.assertEqual(counted, [[0, 0], [1, 1], [2, 1], [3, 2], [4, 3], [5, 3]])

    def test_passing_each_other_is_no_meeting(self):
        self.assertEqual(last(PAIR + [("stand", 0, 1), ("step", 1, 1), ("count",)]), [1, 0])

    def test_standing_together_is_none_without_a_step(self):
        self.assertEqual(last(PAIR + [("stand", 1, 1), ("count",)]), [0, 0])

    def test_link_unlink_stand_and_begin_count_anew(self):
        for call in (("link", 1, 2), ("unlink", 0), ("stand", 0, 0), ("begin", 3)):
            self.assertEqual(last(net(3, [(0, 1)]) + [("step", 1, 1), call, ("count",)]), [0, 0], call)

    def test_others_and_refused_ones_do_not(self):
        calls = [
            ("link", 1, 1), ("unlink", 1), ("stand", 0, 3), ("begin", 8), ("put",), ("take",), ("classes",),
            ("meets", 1, [1, 1]), ("walk", 0, [1]), ("count",), ("state",),
        ]
        for call in calls:
            self.assertEqual(last(net(3, [(0, 1)]) + [("step", 1, 1), call, ("count",)]), [1, 1], call)

    def test_both_are_taken_back(self):
        calls = PAIR + [("step", 1, 1), ("step", 1, 0), ("stand", 0, 0)]
        self.assertEqual(told(calls, [("back",), ("count",)] * 3), [[3], [2, 1], [2], [1, 1], [1], [0, 0]])

    def test_more_steps_than_can_be_taken_back(self):
        self.assertEqual(last([("begin", 2)] + [("step", 1, 1)] * 297 + [("count",)]), [297, 297])


class State(unittest.TestCase):
    def test_at_first(self):
        self.assertEqual(last([("begin", 1), ("state",)]), [1, 0, 0, 0, 1, 0, 0])
        self.assertEqual(last([("begin", 2), ("state",)]), [2, 0, 0, 0, 0, 0, 0])

    def test_where_they_are(self):
        self.assertEqual(last(PAIR + [("stand", 1, 0), ("state",)]), [2, 1, 0, 0, 1, 2, 1, 0, 1])
        self.assertEqual(last(PAIR + [("step", 0, 1), ("state",)]), [2, 0, 1, 0, 1, 2, 1, 0, 1])

    def test_the_pebble(self):
        self.assertEqual(last(PAIR + [("put",), ("state",)]), [2, 0, 0, 1, 1, 2, 1, 0, 1])
        calls = PAIR + [("step", 1, 0), ("put",), ("step", 1, 0), ("state",)]
        self.assertEqual(last(calls), [2, 0, 0, 2, 1, 4, 1, 0, 1])
        self.assertEqual(last(PAIR + [("put",), ("take",), ("state",)]), [2, 0, 0, 0, 1, 3, 1, 0, 1])

    def test_the_pebble_put_down_twice(self):
        self.assertEqual(last(PAIR + [("put",), ("step", 1, 0), ("put",), ("state",)]), [2, 1, 0, 1, 1, 3, 1, 0, 1])

    def test_whether_it_hangs_together(self):
        self.assertEqual(last(ring(7) + [("state",)])[4], 1)
        self.assertEqual(last(ring(7) + [("unlink", 3), ("state",)])[4], 1)
        self.assertEqual(last(ring(7) + [("unlink", 3), ("unlink", 0), ("state",)])[4], 0)
        self.assertEqual(last(net(4, [(2, 3), (1, 2), (1, 3)]) + [("state",)])[4], 0)
        self.assertEqual(last(net(4, [(0, 1), (2, 3)]) + [("state",)])[4], 0)
        self.assertEqual(last(net(4, [(0, 1), (2, 3), (0, 2)]) + [("state",)])[4], 1)

    def test_how_many_changes_can_be_taken_back(self):
        told_back = [last([("begin", 2)] + [("step", 0, 0)] * many + [("state",)])[5] for many in range(13)]
        self.assertEqual(told_back, [0, 1, 2, 3, 4, 5, 6, 7, 8, 9, 10, 10, 10])
        self.assertEqual(last([("begin", 2)] + [("step", 0, 0)] * 12 + [("back",), ("state",)])[5], 9)
        self.assertEqual(last([("begin", 2)] + [("step", 0, 0)] * 3 + [("begin", 2), ("state",)])[5], 0)

    def test_both_places_of_each_link_as_told(self):
        self.assertEqual(last(net(3, [(2, 0), (0, 1)]) + [("state",)]), [3, 0, 0, 0, 1, 2, 2, 2, 0, 0, 1])

    def test_a_link_gone(self):
        calls = net(3, [(2, 0), (0, 1), (1, 2)]) + [("unlink", 1), ("state",), ("unlink", 0), ("state",), ("back",)]
        rows = ask(calls + [("state",)])
        self.assertEqual([rows[5], rows[7], rows[9]], [
            [3, 0, 0, 0, 1, 4, 2, 2, 0, 1, 2], [3, 0, 0, 0, 0, 5, 1, 1, 2], [3, 0, 0, 0, 1, 4, 2, 2, 0, 1, 2],
        ])

    def test_ten_links(self):
        links = [call[1:] for call in FULL[1:]]
        self.assertEqual(last(FULL + [("state",)]), [7, 0, 0, 0, 1, 10, 10] + list(itertools.chain(*links)))

    def test_whether_small_nets_hang_together(self):
        for size in range(1, 5):
            for links in nets_of(size, 4):
                together = hangs_together_by_hand(exits_by_hand(size, links))
                row = last(net(size, links) + [("state",)])
                self.assertEqual(row[4], 1 if together else 0, links)


class Kept(unittest.TestCase):
    def test_no_more_than_ten_moments(self):
        wanderers = Wanderers()
        for call in [("begin", 2)] + [("step", 0, 0)] * 25:
            answer_of(wanderers, NAMES.index(call[0]), list(call[1:]))
        self.assertEqual(len(wanderers.past), 10)


if __name__ == "__main__":
    unittest.main()
