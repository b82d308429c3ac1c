"""What's counted of the two who wander: steps, and how often they met. No call of this stage tells it."""

import unittest

from netwanderers.nets import answer_of
from netwanderers.wanderers import Wanderers
from tests.helper import NAMES, net


def behind(calls):
    """The object behind these calls."""
    wanderers = Wanderers()
    for call in calls:
        answer_of(wanderers, NAMES.index(call[0]), list(call[1:]))
    return wanderers


def counted(calls):
    """How many steps were made behind these calls, and how often they met."""
    now = behind(calls).now
    return (now.steps, now.met)


class Counted(unittest.TestCase):
    PAIR = net(2, [(0, 1)])

    def test_none_at_first_though_both_are_in_one_place(self):
        self.assertEqual(counted([("begin", 1)]), (0, 0))

    def test_each_step_counts_and_each_behind_which_they_are_in_one_place(self):
        steps = [("step", 0, 0), ("step", 1, 0), ("step", 0, 1), ("step", 1, 1), ("step", 1, 9)]
        made = [counted(self.PAIR + steps[:many]) for many in range(6)]
        self.assertEqual(made, [(0, 0), (1, 1), (2, 1), (3, 2), (4, 3), (5, 3)])

    def test_passing_each_other_is_no_meeting(self):
        self.assertEqual(counted(self.PAIR + [("stand", 0, 1), ("step", 1, 1)]), (1, 0))

    def test_link_unlink_stand_and_begin_count_anew(self):
        for call in (("link", 1, 2), ("unlink", 0), ("stand", 0, 0), ("begin", 3)):
            self.assertEqual(counted(net(3, [(0, 1)]) + [("step", 1, 1), call]), (0, 0), call)

    def test_others_and_refused_ones_do_not(self):
        for call in (("link", 1, 1), ("unlink", 1), ("stand", 0, 3), ("begin", 8), ("put",), ("take",), ("classes",)):
            self.assertEqual(counted(net(3, [(0, 1)]) + [("step", 1, 1), call]), (1, 1), call)

    def test_both_are_taken_back(self):
        calls = self.PAIR + [("step", 1, 1), ("step", 1, 0), ("stand", 0, 0)]
        self.assertEqual(counted(calls + [("back",)]), (2, 1))
        self.assertEqual(counted(calls + [("back",)] * 2), (1, 1))
        self.assertEqual(counted(calls + [("back",)] * 3), (0, 0))


class Kept(unittest.TestCase):
    def test_no_more_than_ten_moments(self):
        self.assertEqual(len(behind([("begin", 2)] + [("step", 0, 0)] * 25).past), 10)

    def test_links_stand_as_they_were_told(self):
        self.assertEqual(behind(net(3, [(2, 0), (0, 1)])).now.links, ((2, 0), (0, 1)))


if __name__ == "__main__":
    unittest.main()
