"""Promise 4: soonest, mean and known."""

import itertools
import random
import unittest

from tests.helper import (
    FULL, HUGE, exits_by_hand, hangs_together_by_hand, known_by_hand, last, net, nets_of, orders_by_hand,
    random_links, ring, told,
)

ROW = net(4, [(0, 1), (1, 2), (2, 3)])
STAR = net(5, [(0, 1), (0, 2), (0, 3), (0, 4)])
APART = net(4, [(0, 1), (2, 3)])


class Known(unittest.TestCase):
    def test_steps_from_home_on(self):
        # Into 1: two steps; then one step on, and into 2: three more; 3 is known as 2 is.
        self.assertEqual(last(ROW + [("known", 0, [1, 2, 3])]), [3, 2, 5, 5])

    def test_they_stay_where_they_looked_from(self):
        # Home is in the middle: they look to one side, then go nowhere and look to the other.
        self.assertEqual(last(ROW + [("known", 1, [0, 2, 3])]), [3, 2, 4, 4])
        self.assertEqual(last(ROW + [("known", 1, [2, 3, 0])]), [3, 2, 5, 5])
        # They go on to 2, look into 3, and come back to 1 to look into 0.
        row = net(5, [(0, 1), (1, 2), (2, 3), (3, 4)])
        self.assertEqual(last(row + [("known", 1, [2, 3, 0, 4])]), [4, 2, 5, 8, 8])

    def test_the_last_one_needs_no_look(self):
        self.assertEqual(last(STAR + [("known", 0, [4, 3, 2, 1])]), [4, 2, 4, 6, 6])
        # It may even stand beside no place at all.
        self.assertEqual(last(net(3, [(0, 1)]) + [("known", 0, [1, 2])]), [2, 2, 2])

    def test_no_other_place(self):
        self.assertEqual(last(net(2, [(0, 1)]) + [("known", 0, [1])]), [1, 0])
        self.assertEqual(last(net(2, [(0, 1)]) + [("known", 1, [0])]), [1, 0])
        self.assertEqual(last([("begin", 2), ("known", 0, [1])]), [1, 0])

    def test_one_place(self):
        self.assertEqual(told([("begin", 1)], [("known", 0, []), ("known", 0, [0])]), [[0], [-22]])

    def test_only_by_safe_places(self):
        # On a ring of six from 0: 1, 2 and 3 are safe, and 5 is looked into from 0, three steps back from 2.
        self.assertEqual(last(ring(6) + [("known", 0, [1, 2, 3, 5, 4])]), [5, 2, 5, 8, 12, 12])
        # Were 4 and 5 safe they'd come round: 3 is looked into from 4.
        self.assertEqual(last(ring(6) + [("known", 0, [5, 4, 1, 3, 2])]), [5, 2, 5, 8, 12, 12])

    def test_from_the_nearest_safe_place(self):
        # Place 4 is beside 1 and 3; behind 3 they're in 2, and 3 is nearer than 1 is.
        links = [(0, 1), (1, 2), (2, 3), (1, 4), (3, 4), (0, 5)]
        self.assertEqual(last(net(6, links) + [("known", 0, [1, 2, 3, 4, 5])]), [5, 2, 5, 8, 11, 11])

    def test_of_places_as_near_the_least(self):
        # 4 is beside 1 and 2, both one step from 0, where they are; from 1 it's nearer to 5, from 2 to 6.
        links = [(0, 2), (0, 1), (2, 4), (1, 4), (1, 5), (2, 6), (0, 3)]
        self.assertEqual(last(net(7, links) + [("known", 0, [2, 1, 4, 5, 6, 3])]), [6, 2, 4, 7, 9, 13, 13])
        self.assertEqual(last(net(7, links) + [("known", 0, [1, 2, 4, 6, 5, 3])]), [6, 2, 4, 7, 11, 15, 15])

    def test_an_order_that_does_not_tell_all_but_home_once(self):
        wrong = [
            [1, 2, 2], [1, 1, 2, 3], [0, 1, 2], [1, 2, 3, 0], [0, 1, 2, 3], [1, 2], [1, 2, 3, 4], [1, 2, 4], [], [HUGE],
            [1, 2, 3, 3], [1, 2, 3] * 4,
        ]
        self.assertEqual(told(ROW, [("known", 0, order) for order in wrong]), [[-22]] * len(wrong))

    def test_it_is_told_ahead_of_what_cannot_be_looked_into(self):
        self.assertEqual(told(ROW, [("known", 0, [3, 2]), ("known", 0, [3, 2, 1])]), [[-22], [-33]])

    def test_a_place_that_is_beside_no_safe_one(self):
        self.assertEqual(told(ROW, [("known", 0, order) for order in ([2, 1, 3], [1, 3, 2], [3, 1, 2])]), [[-33]] * 3)
        # The last one may be: 2 is only beside 1, and is known as 1 is, whether that swallows or not.
        self.assertEqual(last(net(3, [(0, 1), (1, 2)]) + [("known", 0, [1, 2])]), [2, 2, 2])
        self.assertEqual(last(net(3, [(0, 1), (1, 2)]) + [("known", 0, [2, 1])]), [-33])

    def test_a_net_that_does_not_hang_together(self):
        self.assertEqual(told(APART, [("known", 0, [1, 2, 3]), ("known", 0, [2, 1, 3])]), [[-33], [-33]])
        self.assertEqual(told([("begin", 3)], [("known", 0, [1, 2]), ("known", 0, [1])]), [[-33], [-22]])

    def test_seven_places(self):
        self.assertEqual(last(FULL + [("known", 0, [1, 2, 3, 4, 5, 6])]), [6, 2, 4, 6, 8, 10, 10])
        self.assertEqual(last(FULL + [("known", 0, [6, 5, 4, 3, 2, 1])]), [6, 2, 4, 6, 8, 10, 10])

    def test_a_link_gone(self):
        calls = [("known", 0, [3, 1, 2]), ("unlink", 3), ("known", 0, [3, 1, 2]), ("back",), ("known", 0, [3, 1, 2])]
        self.assertEqual(told(ring(4), calls), [[3, 2, 4, 4], [3], [-33], [4], [3, 2, 4, 4]])


class Soonest(unittest.TestCase):
    def test_the_least_at_worst(self):
        self.assertEqual(last(ROW + [("soonest", 0)]), [5, 1, 2, 3])
        # From 1 it's best to leave out 3, the farthest.
        self.assertEqual(last(ROW + [("soonest", 1)]), [4, 0, 2, 3])

    def test_of_like_orders_the_first(self):
        self.assertEqual(last(STAR + [("soonest", 0)]), [6, 1, 2, 3, 4])
        self.assertEqual(last(STAR + [("soonest", 1)]), [7, 0, 2, 3, 4])
        self.assertEqual(last(ROW + [("soonest", 2)]), [4, 1, 3, 0])

    def test_the_place_that_is_looked_into_first_is_not_always_the_least(self):
        self.assertEqual(last(net(4, [(3, 2), (2, 1), (1, 0)]) + [("soonest", 3)]), [5, 2, 1, 0])

    def test_a_ring(self):
        self.assertEqual(last(ring(5) + [("soonest", 0)]), [7, 1, 4, 2, 3])

    def test_one_place_and_two(self):
        self.assertEqual(last([("begin", 1), ("soonest", 0)]), [0])
        self.assertEqual(told(net(2, [(0, 1)]), [("soonest", 0), ("soonest", 1)]), [[0, 1], [0, 0]])

    def test_a_place_that_is_only_beside_the_one_that_swallows(self):
        self.assertEqual(last(net(3, [(0, 1), (1, 2)]) + [("soonest", 0)]), [2, 1, 2])

    def test_six_places_and_seven(self):
        self.assertEqual(last(ring(6) + [("soonest", 0)]), [10, 1, 5, 2, 3, 4])
        self.assertEqual(told(ring(7), [("soonest", 0), ("soonest", 6)]), [[-75], [-75]])

    def test_a_net_that_does_not_hang_together(self):
        self.assertEqual(told(APART, [("soonest", 0), ("soonest", 3)]), [[-35], [-35]])
        self.assertEqual(last([("begin", 2), ("soonest", 0)]), [-35])
        # It's told ahead of -75, and behind -2.
        self.assertEqual(told([("begin", 7)], [("soonest", 0), ("soonest", 7)]), [[-35], [-2]])


class Mean(unittest.TestCase):
    def test_the_fewest_all_together(self):
        self.assertEqual(last(ROW + [("mean", 0)]), [12, 1, 2, 3])
        self.assertEqual(last(ROW + [("mean", 1)]), [10, 0, 2, 3])

    def test_not_always_the_order_that_is_least_at_worst(self):
        calls = net(6, [(1, 3), (0, 5), (3, 0), (4, 5), (3, 4), (0, 2)])
        self.assertEqual(told(calls, [("soonest", 0), ("mean", 0)]), [[9, 2, 3, 1, 4, 5], [30, 2, 3, 5, 1, 4]])
        self.assertEqual(told(calls, [("known", 0, [2, 3, 1, 4, 5]), ("known", 0, [2, 3, 5, 1, 4])]), [
            [5, 2, 4, 7, 9, 9], [5, 2, 4, 6, 9, 9],
        ])

    def test_of_like_orders_the_first(self):
        self.assertEqual(last(STAR + [("mean", 0)]), [18, 1, 2, 3, 4])

    def test_one_place_and_two(self):
        self.assertEqual(last([("begin", 1), ("mean", 0)]), [0])
        self.assertEqual(told(net(2, [(0, 1)]), [("mean", 0), ("mean", 1)]), [[0, 1], [0, 0]])

    def test_six_places_and_seven(self):
        self.assertEqual(last(ring(6) + [("mean", 0)]), [33, 1, 5, 2, 3, 4])
        self.assertEqual(told(ring(7), [("mean", 0), ("mean", 6)]), [[-75], [-75]])

    def test_a_net_that_does_not_hang_together(self):
        self.assertEqual(told(APART, [("mean", 0), ("mean", 3)]), [[-35], [-35]])
        self.assertEqual(told([("begin", 7)], [("mean", 0), ("mean", 7)]), [[-35], [-2]])


class AgainstAllOrders(unittest.TestCase):
    def check(self, size, links, home):
        rows = exits_by_hand(size, links)
        orders = orders_by_hand(rows, home)
        where = (size, links, home)
        expected = []
        for steps_of in (lambda known: max(known, default=0), sum):
            least = min(steps_of(known) for order, known in orders)
            expected.append([least] + min(order for order, known in orders if steps_of(known) == least))
        self.assertEqual(told(net(size, links), [("soonest", home), ("mean", home)]), expected, where)

    def check_known(self, size, links, home):
        rows = exits_by_hand(size, links)
        orders = list(itertools.permutations([place for place in range(size) if place != home]))
        known = [known_by_hand(rows, home, order) for order in orders]
        expected = [[-33] if steps is None else [len(steps)] + steps for steps in known]
        got = told(net(size, links), [("known", home, list(order)) for order in orders])
        self.assertEqual(got, expected, (size, links, home))

    def test_all_nets_of_up_to_four_places(self):
        for size in range(1, 5):
            for links in [links for links in nets_of(size, 6) if links == sorted(links)]:
                for home in range(size):
                    self.check_known(size, links, home)
                    if hangs_together_by_hand(exits_by_hand(size, links)):
                        self.check(size, links, home)

    def test_nets_of_five_and_six_places(self):
        source = random.Random(7)
        many = 0
        while many < 60:
            size = source.randrange(5, 7)
            links = random_links(source, size, source.randrange(4, 11))
            if hangs_together_by_hand(exits_by_hand(size, links)):
                self.check(size, links, source.randrange(size))
                self.check_known(size, links, source.randrange(size))
                many += 1


if __name__ == "__main__":
    unittest.main()
