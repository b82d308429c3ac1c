"""Promise 1, and the refusals told ahead of it."""

import unittest

from tests.helper import ALL_BUT_BEGIN, FULL, HUGE, ask, last, net


class NotBegun(unittest.TestCase):
    def test_all_but_begin_are_refused_at_first(self):
        self.assertEqual(ask(ALL_BUT_BEGIN), [[-61]] * len(ALL_BUT_BEGIN))

    def test_a_refused_begin_begins_nothing(self):
        for size in (0, 8, HUGE):
            rows = ask([("begin", size)] + ALL_BUT_BEGIN)
            self.assertEqual(rows, [[-22]] + [[-61]] * len(ALL_BUT_BEGIN))

    def test_it_is_told_ahead_of_all_other_refusals(self):
        calls = [
            ("link", 9, 9), ("unlink", 9), ("stand", 9, 9), ("looks", 9), ("exits", 9), ("walk", 9, [0] * 31),
            ("apart", 9, 9), ("take",), ("back",), ("distance", 9, 9), ("near", 9, 9), ("meets", 21, [0] * 31),
            ("found", 3), ("soonest", 9), ("mean", 9), ("known", 9, [9]), ("pebble", 9, 9), ("same", 9, 9),
        ]
        self.assertEqual(ask(calls), [[-61]] * len(calls))


class NoSuchPlace(unittest.TestCase):
    def test_places_from_n_on_are_refused(self):
        for size in range(1, 8):
            for there_is_none in (size, HUGE):
                calls = [
                    ("link", there_is_none, 0), ("link", 0, there_is_none), ("stand", there_is_none, 0),
                    ("stand", 0, there_is_none), ("exits", there_is_none), ("walk", there_is_none, []),
                    ("apart", there_is_none, 0), ("apart", 0, there_is_none), ("distance", there_is_none, 0),
                    ("distance", 0, there_is_none), ("near", there_is_none, 0), ("near", 0, there_is_none),
                    ("soonest", there_is_none), ("mean", there_is_none), ("known", there_is_none, []),
                    ("pebble", there_is_none, 0), ("pebble", 0, there_is_none), ("same", there_is_none, 0),
                    ("same", 0, there_is_none),
                ]
                rows = ask([("begin", size)] + calls)
                self.assertEqual(rows, [[0]] + [[-2]] * len(calls))

    def test_it_is_told_ahead_of_what_else_is_due(self):
        self.assertEqual(last([("begin", 3), ("link", 3, 3)]), [-2])
        self.assertEqual(last(FULL + [("link", 0, 7)]), [-2])
        self.assertEqual(last([("begin", 3), ("walk", 3, [0] * 31)]), [-2])
        self.assertEqual(last([("begin", 3), ("apart", 3, 3)]), [-2])
        # Seven places that don't hang together: -35, -75 and more would be due.
        calls = [
            ("near", 7, 7), ("soonest", 7), ("mean", 7), ("known", 7, [7, 7]), ("pebble", 0, 7), ("same", 7, 0),
            ("distance", 0, 7),
        ]
        self.assertEqual(ask([("begin", 7)] + calls), [[0]] + [[-2]] * len(calls))

    def test_the_last_place_is_there(self):
        calls = [("begin", 7), ("link", 6, 0), ("stand", 6, 6), ("exits", 6), ("walk", 6, []), ("apart", 6, 6)]
        self.assertEqual(ask(calls), [[0], [0], [0], [1, 0, 0], [1, 6], [-6]])


class Begin(unittest.TestCase):
    def test_one_to_seven_places(self):
        for size in range(1, 8):
            rows = ask([("begin", size), ("classes",)])
            self.assertEqual(rows, [[0], [size] + [0] * size])

    def test_other_sizes_are_refused(self):
        self.assertEqual(ask([("begin", 0), ("begin", 8), ("begin", HUGE)]), [[-22], [-22], [-22]])

    def test_all_is_new(self):
        before = net(3, [(0, 1)]) + [("stand", 1, 2), ("put",)]
        after = [("begin", 2), ("back",), ("looks", 0), ("looks", 1), ("exits", 0), ("exits", 1), ("take",)]
        rows = ask(before + after)[len(before):]
        self.assertEqual(rows, [[0], [-6], [0, 0, 1], [0, 0, 1], [0], [0], [-17]])

    def test_a_refused_one_leaves_all_as_it_was(self):
        before = net(3, [(0, 1)]) + [("stand", 1, 2), ("put",)]
        after = [("begin", 8), ("looks", 0), ("exits", 0), ("classes",), ("take",), ("back",)]
        rows = ask(before + after)[len(before):]
        self.assertEqual(rows, [[-22], [1, 1, 0], [1, 1, 0], [3, 0, 0, 2], [0], [3]])


class Link(unittest.TestCase):
    def test_it_answers_its_number(self):
        self.assertEqual(ask(FULL), [[0]] + [[number] for number in range(10)])

    def test_no_link_from_a_place_to_itself(self):
        self.assertEqual(last([("begin", 3), ("link", 1, 1)]), [-22])

    def test_no_second_link_either_way_round(self):
        self.assertEqual(ask(net(3, [(0, 1), (0, 1), (1, 0), (1, 2)])), [[0], [0], [-17], [-17], [1]])

    def test_no_eleventh(self):
        self.assertEqual(last(FULL + [("link", 5, 6)]), [-28])

    def test_the_refusal_told_first_is_answered(self):
        self.assertEqual(last(FULL + [("link", 5, 5)]), [-22])
        self.assertEqual(last(FULL + [("link", 5, 4)]), [-17])

    def test_there_is_room_again_for_one_that_is_gone(self):
        calls = [("unlink", 0), ("link", 5, 6), ("link", 0, 1), ("unlink", 9), ("link", 1, 0)]
        self.assertEqual(ask(FULL + calls)[len(FULL):], [[9], [9], [-28], [9], [9]])


class Unlink(unittest.TestCase):
    def test_it_answers_how_many_are_left(self):
        calls = net(3, [(0, 1), (1, 2), (2, 0)]) + [("unlink", 2), ("unlink", 0), ("unlink", 0), ("unlink", 0)]
        self.assertEqual(ask(calls)[4:], [[2], [1], [0], [-2]])

    def test_no_such_link(self):
        calls = net(3, [(0, 1)]) + [("unlink", 1), ("unlink", HUGE), ("exits", 0), ("back",), ("back",)]
        self.assertEqual(ask(calls)[2:], [[-2], [-2], [1, 1, 0], [0], [-6]])

    def test_the_links_and_exits_behind_it_are_numbered_one_less(self):
        calls = net(4, [(0, 1), (0, 2), (3, 0), (1, 2)])
        self.assertEqual(ask(calls + [("exits", place) for place in range(4)])[5:], [
            [3, 1, 0, 2, 0, 3, 0], [2, 0, 0, 2, 1], [2, 0, 1, 1, 1], [1, 0, 2],
        ])
        calls = calls + [("unlink", 0)]
        self.assertEqual(ask(calls + [("exits", place) for place in range(4)])[6:], [
            [2, 2, 0, 3, 0], [1, 2, 1], [2, 0, 0, 1, 0], [1, 0, 1],
        ])
        calls = calls + [("unlink", 1)]
        self.assertEqual(ask(calls + [("exits", place) for place in range(4)])[7:], [
            [1, 2, 0], [1, 2, 1], [2, 0, 0, 1, 0], [0],
        ])


class Stand(unittest.TestCase):
    def test_a_is_in_u_and_b_in_v(self):
        calls = net(3, [(0, 1), (1, 2)]) + [("stand", 1, 2), ("looks", 0), ("looks", 1)]
        self.assertEqual(ask(calls)[3:], [[0], [2, 0, 0], [1, 0, 0]])

    def test_both_in_one_place(self):
        calls = net(3, [(0, 1), (1, 2)]) + [("stand", 1, 1), ("looks", 0), ("looks", 1)]
        self.assertEqual(ask(calls)[3:], [[0], [2, 0, 1], [2, 0, 1]])

    def test_the_same_places_again_are_a_change_too(self):
        self.assertEqual(ask([("begin", 1), ("stand", 0, 0), ("back",), ("back",)]), [[0], [0], [0], [-6]])

    def test_link_and_unlink_leave_both_where_they_are(self):
        calls = net(4, [(0, 1)]) + [("stand", 1, 2), ("link", 1, 3), ("looks", 0), ("looks", 1), ("unlink", 0)]
        calls = calls + [("looks", 0), ("looks", 1)]
        self.assertEqual(ask(calls)[3:], [[1], [2, 0, 0], [0, 0, 0], [1], [1, 0, 0], [0, 0, 0]])


class Step(unittest.TestCase):
    def test_each_goes_by_its_own_letter(self):
        calls = net(4, [(0, 1), (0, 2), (1, 3), (2, 3)]) + [("stand", 0, 3)]
        # a goes to 1 by its first exit, b to 2 by its second.
        self.assertEqual(ask(calls + [("step", 1, 2)])[6:], [[0, 1, 2, 2, 2]])
        # both come to 1.
        self.assertEqual(ask(calls + [("step", 1, 1)])[6:], [[1, 1, 2, 2, 2]])
        # a stays, b goes to 1 and then comes to a.
        calls = calls + [("step", 0, 1), ("step", 0, 1), ("step", 2, 0)]
        self.assertEqual(ask(calls)[6:], [[0, 0, 2, 2, 2], [1, 0, 2, 1, 2], [0, 1, 2, 0, 2]])

    def test_they_pass_each_other_on_a_link(self):
        calls = net(2, [(0, 1)]) + [("stand", 0, 1), ("step", 1, 1), ("looks", 0)]
        self.assertEqual(ask(calls)[3:], [[0, 1, 1, 1, 1], [1, 0, 0]])

    def test_no_such_exit_is_as_staying(self):
        calls = net(3, [(0, 1), (0, 2)]) + [("stand", 0, 1), ("step", 3, 2), ("step", HUGE, HUGE), ("step", 2, 0)]
        self.assertEqual(ask(calls)[4:], [[0, 0, 2, 0, 1], [0, 0, 2, 0, 1], [0, 1, 1, 0, 1]])

    def test_one_place(self):
        self.assertEqual(last([("begin", 1), ("step", 1, 2)]), [1, 0, 0, 0, 0])

    def test_no_links(self):
        self.assertEqual(last([("begin", 3), ("stand", 1, 2), ("step", 1, 1)]), [0, 0, 0, 0, 0])

    def test_they_go_on_from_where_they_came_to(self):
        calls = net(4, [(0, 1), (1, 2), (2, 3)]) + [("step", 1, 0), ("step", 2, 0), ("step", 2, 1), ("step", 1, 2)]
        self.assertEqual(ask(calls)[4:], [[0, 1, 2, 0, 1], [0, 1, 2, 0, 1], [0, 1, 1, 1, 2], [1, 2, 2, 1, 2]])


class Pebble(unittest.TestCase):
    def test_it_lies_where_a_put_it(self):
        calls = net(2, [(0, 1)]) + [("stand", 0, 1), ("put",), ("looks", 0), ("looks", 1), ("step", 1, 1)]
        calls = calls + [("looks", 0), ("looks", 1)]
        self.assertEqual(ask(calls)[3:], [[0], [1, 1, 0], [1, 0, 0], [0, 1, 1, 1, 1], [1, 0, 0], [1, 1, 0]])

    def test_it_is_put_down_once(self):
        calls = net(2, [(0, 1)]) + [("put",), ("put",), ("step", 1, 0), ("put",), ("looks", 0), ("looks", 1)]
        self.assertEqual(ask(calls)[2:], [[0], [-17], [0, 1, 1, 0, 1], [-17], [1, 0, 0], [1, 1, 0]])

    def test_it_is_taken_where_it_lies(self):
        calls = net(2, [(0, 1)]) + [("take",), ("put",), ("step", 1, 0), ("take",), ("step", 1, 0), ("take",)]
        calls = calls + [("take",), ("looks", 0), ("step", 1, 0), ("put",), ("looks", 0)]
        self.assertEqual(ask(calls)[2:], [
            [-17], [0], [0, 1, 1, 0, 1], [-33], [1, 1, 1, 0, 1], [0], [-17], [1, 0, 1], [0, 1, 1, 0, 1], [0], [1, 1, 0],
        ])

    def test_b_cannot_take_it(self):
        calls = net(2, [(0, 1)]) + [("put",), ("stand", 0, 1), ("put",), ("step", 1, 1), ("take",)]
        self.assertEqual(last(calls), [-33])

    def test_link_unlink_and_stand_hand_it_back(self):
        for call in (("link", 1, 2), ("unlink", 0), ("stand", 0, 0)):
            calls = net(3, [(0, 1)]) + [("put",), call, ("looks", 0), ("take",), ("put",)]
            rows = ask(calls)
            self.assertEqual([rows[4][1], rows[5], rows[6]], [0, [-17], [0]])

    def test_it_is_handed_back_only_where_nothing_is_refused(self):
        for call in (("link", 1, 1), ("link", 1, 0), ("link", 0, 3), ("unlink", 1), ("stand", 0, 3), ("begin", 0)):
            calls = net(3, [(0, 1)]) + [("put",), call, ("looks", 0), ("put",)]
            self.assertEqual(ask(calls)[4:], [[1, 1, 1], [-17]])


class Back(unittest.TestCase):
    def test_nothing_to_take_back(self):
        self.assertEqual(ask([("begin", 3), ("back",), ("back",)]), [[0], [-6], [-6]])

    def test_it_answers_how_many_can_still_be(self):
        calls = net(3, [(0, 1), (1, 2)]) + [("back",), ("exits", 1), ("back",), ("exits", 1), ("back",)]
        self.assertEqual(ask(calls)[3:], [[1], [1, 0, 0], [0], [0], [-6]])

    def test_of_more_than_ten_only_the_last_ten(self):
        steps = [("step", 1, 0)] * 11
        calls = net(2, [(0, 1)]) + steps + [("looks", 0)] + [("back",)] * 11 + [("looks", 0), ("exits", 0)]
        rows = ask(calls)
        self.assertEqual(rows[13], [1, 0, 0])
        self.assertEqual(rows[14:25], [[left] for left in range(9, -1, -1)] + [[-6]])
        # Eleven steps and the link were made: the link and the first step stay.
        self.assertEqual(rows[25:], [[1, 0, 0], [1, 1, 0]])

    def test_just_ten(self):
        calls = [("begin", 2), ("link", 0, 1)] + [("step", 1, 0)] * 9 + [("back",)] * 11 + [("exits", 0)]
        rows = ask(calls)
        self.assertEqual(rows[11:22], [[left] for left in range(9, -1, -1)] + [[-6]])
        self.assertEqual(rows[22], [0])

    def test_each_sort_of_change(self):
        before = net(4, [(0, 1), (1, 2)]) + [("stand", 1, 3), ("put",), ("step", 2, 0)]
        asked = [("looks", 0), ("looks", 1), ("exits", 0), ("exits", 1), ("exits", 2), ("exits", 3), ("take",), ("put",)]
        changes = [("link", 2, 3), ("unlink", 0), ("stand", 0, 0), ("step", 1, 1)]
        expected = ask(before + asked)[len(before):]
        for change in changes:
            rows = ask(before + [change, ("back",)] + asked)
            self.assertEqual(rows[len(before) + 1:], [[5]] + expected)

    def test_put_and_take(self):
        calls = net(2, [(0, 1)]) + [("put",), ("back",), ("looks", 0), ("put",), ("take",), ("back",), ("looks", 0)]
        self.assertEqual(ask(calls)[2:], [[0], [1], [1, 0, 1], [0], [0], [2], [1, 1, 1]])

    def test_the_pebble_lies_again_where_it_lay(self):
        calls = net(2, [(0, 1)]) + [("put",), ("step", 1, 0), ("stand", 1, 1), ("back",), ("looks", 0), ("looks", 1)]
        self.assertEqual(ask(calls)[4:], [[0], [3], [1, 0, 0], [1, 1, 0]])

    def test_a_link_taken_back_to_its_own_number(self):
        calls = net(3, [(0, 1), (0, 2)]) + [("unlink", 0), ("back",), ("exits", 0)]
        self.assertEqual(ask(calls)[3:], [[1], [2], [2, 1, 0, 2, 0]])

    def test_what_is_refused_or_asked_is_no_change(self):
        idle = [
            ("begin", 0), ("begin", 8), ("link", 0, 1), ("link", 2, 2), ("link", 0, 3), ("unlink", 1), ("stand", 3, 0),
            ("take",), ("looks", 0), ("looks", 2), ("exits", 0), ("exits", 3), ("walk", 0, [1, 1]),
            ("walk", 0, [1] * 31), ("apart", 0, 2), ("apart", 0, 3), ("classes",), ("distance", 0, 1), ("near", 0, 1),
            ("meets", 2, [1, 1]), ("can", 1), ("found", 1), ("soonest", 0), ("mean", 0), ("known", 0, [1, 2]),
            ("pebble", 0, 2), ("same", 0, 1), ("count",), ("state",),
        ]
        calls = net(3, [(0, 1)]) + [("stand", 1, 2)] + idle + [("back",), ("looks", 0), ("back",), ("back",)]
        self.assertEqual(ask(calls)[len(idle) + 3:], [[1], [1, 0, 1], [0], [-6]])

    def test_a_begin_leaves_nothing_to_take_back(self):
        self.assertEqual(last(net(3, [(0, 1)]) + [("begin", 3), ("back",)]), [-6])


if __name__ == "__main__":
    unittest.main()
