"""Promises 2 and 3, as far as looks, exits, walk, apart and classes go: the net, and what's seen on the way."""

import itertools
import unittest

from tests.helper import FULL, HUGE, apart_by_hand, ask, exits_by_hand, last, net, nets_of, ring


class Looks(unittest.TestCase):
    def test_exits_pebble_and_company(self):
        calls = net(4, [(0, 1), (0, 2), (0, 3)]) + [("looks", 0), ("looks", 1), ("put",), ("looks", 0), ("looks", 1)]
        calls = calls + [("step", 0, 2), ("looks", 0), ("looks", 1)]
        self.assertEqual(ask(calls)[4:], [
            [3, 0, 1], [3, 0, 1], [0], [3, 1, 1], [3, 1, 1], [0, 0, 3, 1, 1], [3, 1, 0], [1, 0, 0],
        ])

    def test_there_are_only_two(self):
        self.assertEqual(ask([("begin", 7), ("looks", 1), ("looks", 2), ("looks", HUGE)])[1:], [[0, 0, 1], [-2], [-2]])

    def test_a_carried_pebble_lies_nowhere(self):
        calls = net(2, [(0, 1)]) + [("put",), ("take",), ("looks", 0), ("looks", 1)]
        self.assertEqual(ask(calls)[4:], [[1, 0, 1], [1, 0, 1]])


class Exits(unittest.TestCase):
    def test_one_place(self):
        self.assertEqual(last([("begin", 1), ("exits", 0)]), [0])

    def test_no_links(self):
        self.assertEqual(ask([("begin", 3), ("exits", 0), ("exits", 2)])[1:], [[0], [0]])

    def test_a_ring(self):
        self.assertEqual(ask(ring(4) + [("exits", place) for place in range(4)])[5:], [
            [2, 1, 0, 3, 1], [2, 0, 0, 2, 0], [2, 1, 1, 3, 0], [2, 2, 1, 0, 1],
        ])

    def test_six_exits(self):
        self.assertEqual(last(FULL + [("exits", 0)]), [6, 1, 0, 2, 0, 3, 0, 4, 0, 5, 0, 6, 0])

    def test_a_net_that_does_not_hang_together(self):
        calls = net(5, [(0, 1), (3, 2)]) + [("exits", place) for place in range(5)]
        self.assertEqual(ask(calls)[3:], [[1, 1, 0], [1, 0, 0], [1, 3, 0], [1, 2, 0], [0]])


class Walk(unittest.TestCase):
    def test_the_places_one_is_in(self):
        calls = net(4, [(0, 1), (1, 2), (2, 3)])
        self.assertEqual(last(calls + [("walk", 0, [1, 2, 0, 2, 1, 1, 1])]), [8, 0, 1, 2, 2, 3, 2, 1, 0])
        self.assertEqual(last(calls + [("walk", 3, [1, 1, 1])]), [4, 3, 2, 1, 0])

    def test_no_letters(self):
        self.assertEqual(last([("begin", 3), ("walk", 2, [])]), [1, 2])

    def test_no_such_exit_is_as_staying(self):
        self.assertEqual(last(net(2, [(0, 1)]) + [("walk", 0, [2, HUGE, 1, 3])]), [5, 0, 0, 0, 1, 1])

    def test_thirty_letters_and_more(self):
        calls = net(2, [(0, 1)])
        self.assertEqual(last(calls + [("walk", 0, [1] * 30)]), [31] + [0, 1] * 15 + [0])
        self.assertEqual(last(calls + [("walk", 0, [1] * 31)]), [-22])
        self.assertEqual(ask(calls + [("walk", 1, [1] * 40), ("walk", 1, [1])])[2:], [[-22], [2, 1, 0]])

    def test_nobody_goes(self):
        calls = net(2, [(0, 1)]) + [("walk", 0, [1]), ("looks", 0), ("stand", 0, 1), ("walk", 0, [1]), ("looks", 0)]
        self.assertEqual(ask(calls)[2:], [[2, 0, 1], [1, 0, 1], [0], [2, 0, 1], [1, 0, 0]])


class Apart(unittest.TestCase):
    def test_by_how_many_exits_they_have(self):
        self.assertEqual(last(net(3, [(0, 1), (1, 2)]) + [("apart", 0, 1)]), [0])

    def test_by_the_exit_one_comes_in_by(self):
        self.assertEqual(last(net(3, [(0, 1), (1, 2)]) + [("apart", 0, 2)]), [1])

    def test_a_place_is_alike_itself(self):
        self.assertEqual(ask(FULL + [("apart", place, place) for place in range(7)])[11:], [[-6]] * 7)

    def test_no_links(self):
        self.assertEqual(last([("begin", 2), ("apart", 0, 1)]), [-6])

    def test_in_several_steps(self):
        row = net(7, [(0, 1), (2, 3), (4, 5), (1, 2), (3, 4), (5, 6)])
        asked = [("apart", 1, 2), ("apart", 1, 3), ("apart", 2, 3), ("apart", 2, 4), ("apart", 3, 5)]
        self.assertEqual(ask(row + asked)[7:], [[1], [1], [2], [2], [1]])

    def test_on_a_ring_it_is_told_where_place_0_comes_in_sight(self):
        asked = [("apart", 0, 1), ("apart", 1, 2), ("apart", 2, 3), ("apart", 3, 4), ("apart", 4, 3), ("apart", 4, 5)]
        self.assertEqual(ask(ring(7) + asked)[8:], [[1], [1], [2], [3], [3], [2]])

    def test_on_a_ring_that_is_the_same_from_each_place(self):
        calls = net(4, [(0, 1), (2, 3), (1, 2), (3, 0)])
        self.assertEqual(ask(calls + [("apart", 0, 1), ("apart", 0, 2), ("apart", 0, 3)])[5:], [[-6], [-6], [-6]])

    def test_where_the_net_does_not_hang_together(self):
        calls = net(6, [(0, 1), (2, 3), (3, 4)])
        asked = [("apart", 0, 1), ("apart", 0, 2), ("apart", 0, 5), ("apart", 2, 4), ("apart", 0, 4)]
        self.assertEqual(ask(calls + asked)[4:], [[-6], [1], [0], [1], [1]])

    def test_it_changes_with_the_links(self):
        calls = net(4, [(0, 1), (2, 3), (1, 2)]) + [("apart", 0, 2), ("unlink", 2), ("apart", 0, 2), ("back",)]
        self.assertEqual(ask(calls + [("apart", 0, 2)])[4:], [[0], [2], [-6], [3], [0]])


class Classes(unittest.TestCase):
    def test_one_place(self):
        self.assertEqual(last([("begin", 1), ("classes",)]), [1, 0])

    def test_no_links(self):
        self.assertEqual(last([("begin", 4), ("classes",)]), [4, 0, 0, 0, 0])

    def test_a_ring(self):
        self.assertEqual(last(ring(5) + [("classes",)]), [5, 0, 1, 2, 3, 4])
        self.assertEqual(last(net(4, [(0, 1), (2, 3), (1, 2), (3, 0)]) + [("classes",)]), [4, 0, 0, 0, 0])
        self.assertEqual(last(net(4, [(0, 1), (2, 3), (1, 2), (0, 3)]) + [("classes",)]), [4, 0, 0, 0, 0])

    def test_a_row_of_four(self):
        self.assertEqual(last(net(4, [(1, 2), (0, 1), (2, 3)]) + [("classes",)]), [4, 0, 1, 1, 0])

    def test_a_net_that_does_not_hang_together(self):
        calls = net(7, [(0, 1), (5, 6), (2, 3)])
        self.assertEqual(last(calls + [("classes",)]), [7, 0, 0, 0, 0, 4, 0, 0])

    def test_a_link_gone(self):
        calls = net(3, [(0, 1), (1, 2), (2, 0)]) + [("classes",), ("unlink", 1), ("classes",)]
        self.assertEqual(ask(calls)[4:], [[3, 0, 1, 2], [2], [3, 0, 1, 2]])


class AgainstWordByWord(unittest.TestCase):
    def check(self, size, links):
        rows = exits_by_hand(size, links)
        pairs = list(itertools.product(range(size), repeat=2))
        calls = net(size, links)
        laid = len(calls)
        calls = calls + [("exits", place) for place in range(size)] + [("apart", u, v) for u, v in pairs]
        told = ask(calls + [("classes",)])[laid:]
        steps = {pair: apart_by_hand(rows, pair[0], pair[1]) for pair in pairs}
        expected = [[len(row)] + [number for pair in row for number in pair] for row in rows]
        expected = expected + [[steps[pair]] for pair in pairs]
        least = [min(v for v in range(size) if steps[(u, v)] == -6) for u in range(size)]
        self.assertEqual(told, expected + [[size] + least], links)

    def test_all_nets_of_up_to_three_places(self):
        for size in range(1, 4):
            for links in nets_of(size, 3):
                self.check(size, links)

    def test_nets_of_four_and_five_places(self):
        for size, most_links, every in ((4, 4, 3), (5, 4, 97)):
            for links in itertools.islice(nets_of(size, most_links), 0, None, every):
                self.check(size, links)


if __name__ == "__main__":
    unittest.main()
