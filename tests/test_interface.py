"""The interface: how calls stand in the list, what is given back, and that nothing is changed or kept."""

import random
import unittest

from netwanderers.nets import answers
from tests.helper import ALL_BUT_BEGIN, FULL, HUGE, ask, net, numbers_of, random_calls, ring, split


class Sealed(list):
    """A list that fails as soon as somebody tries to change it, for a while even."""

    def refuse(self, *given):
        raise AssertionError("the list handed in was to be changed")

    append = clear = extend = insert = pop = remove = reverse = sort = refuse
    __setitem__ = __delitem__ = __iadd__ = __imul__ = refuse


class Form(unittest.TestCase):
    def test_each_answer_has_its_count_ahead(self):
        # begin 3; link 0 1; link 1 2; link 1 1; exits 1; walk 0 by 1, 2; step 1 0; looks 0; apart 0 2; classes; back
        calls = [0, 3, 1, 0, 1, 1, 1, 2, 1, 1, 1, 9, 1, 10, 0, 2, 1, 2, 4, 1, 0, 8, 0, 11, 0, 2, 12, 7]
        self.assertEqual(answers(calls), [
            1, 0, 1, 0, 1, 1, 1, -22, 5, 2, 0, 0, 2, 0, 4, 3, 0, 1, 2, 5, 0, 1, 2, 0, 1, 3, 2, 0, 0, 1, 1,
            4, 3, 0, 1, 2, 1, 2,
        ])

    def test_the_numbers_of_the_calls_that_change(self):
        # begin 2; link 0 1; stand 1 1; put; put; take; take; unlink 0
        self.assertEqual(answers([0, 2, 1, 0, 1, 3, 1, 1, 5, 5, 6, 6, 2, 0]), [
            1, 0, 1, 0, 1, 0, 1, 0, 1, -17, 1, 0, 1, -17, 1, 0,
        ])

    def test_the_numbers_of_the_calls_that_ask(self):
        # A row of four that is the same from both ends; stand 0 3; then the calls from 13 to 24.
        laid = [0, 4, 1, 1, 2, 1, 0, 1, 1, 2, 3, 3, 0, 3]
        self.assertEqual(answers(laid)[-2:], [1, 0])
        asked = [
            ([13, 0, 3], [3]), ([14, 0, 3], [1, 1, 1]), ([15, 3, 3, 1, 1, 2], [3, 3]), ([15, 0, 0], [-33]),
            ([16, 1], [1]), ([16, 0], [0]), ([17, 1], [2, 1, 1]), ([17, 0], [-33]), ([18, 0], [5, 1, 2, 3]),
            ([19, 0], [12, 1, 2, 3]), ([20, 0, 3, 1, 2, 3], [3, 2, 5, 5]), ([20, 0, 0], [-22]), ([21, 0, 1], [0]),
            ([21, 0, 3], [-6]), ([22, 0, 3], [4, 3, 2, 1, 0]), ([23], [0, 0]),
            ([24], [4, 0, 3, 0, 1, 4, 3, 1, 2, 0, 1, 2, 3]),
        ]
        calls, expected = list(laid), []
        for call, answer in asked:
            calls.extend(call)
            expected.extend([len(answer)] + answer)
        self.assertEqual(answers(calls)[len(answers(laid)):], expected)

    def test_one_call(self):
        self.assertEqual(answers([0, 7]), [1, 0])
        self.assertEqual(answers([12]), [1, -61])
        self.assertEqual(answers([24]), [1, -61])
        self.assertEqual(answers([10, 0, 0]), [1, -61])

    def test_a_refused_call_is_read_to_its_end(self):
        self.assertEqual(answers([10, 0, 3, 0, 1, 2, 0, 1]), [1, -61, 1, 0])
        self.assertEqual(ask([("begin", 2), ("walk", 2, [0, 1]), ("walk", 0, [12] * 31), ("classes",)]), [
            [0], [-2], [-22], [2, 0, 0],
        ])
        self.assertEqual(ask([("begin", 2), ("meets", 21, [7] * 40), ("known", 2, [0] * 12), ("count",)]), [
            [0], [-22], [-2], [0, 0],
        ])

    def test_each_call_is_read_by_its_arguments(self):
        for call in ALL_BUT_BEGIN:
            rows = ask([call, ("begin", 2), ("link", 0, 1), call, ("begin", 1), call, ("begin", 1), ("state",)])
            self.assertEqual([rows[0], rows[1], rows[2], rows[4], rows[6], rows[7]], [
                [-61], [0], [0], [0], [0], [1, 0, 0, 0, 1, 0, 0],
            ], call)

    def test_the_greatest_numbers(self):
        calls = [
            ("link", HUGE, HUGE), ("unlink", HUGE), ("stand", HUGE, HUGE), ("looks", HUGE), ("exits", HUGE),
            ("walk", HUGE, [HUGE]), ("apart", HUGE, HUGE), ("distance", HUGE, HUGE), ("near", HUGE, HUGE),
            ("soonest", HUGE), ("mean", HUGE), ("known", HUGE, [HUGE]), ("pebble", HUGE, HUGE), ("same", HUGE, HUGE),
        ]
        self.assertEqual(ask([("begin", 1)] + calls), [[0]] + [[-2]] * len(calls))
        calls = [("step", HUGE, HUGE), ("meets", HUGE, [HUGE]), ("can", HUGE), ("found", HUGE), ("known", 0, [HUGE])]
        self.assertEqual(ask([("begin", 1)] + calls), [[0], [1, 0, 0, 0, 0], [-22], [1], [-75], [-22]])

    def test_only_whole_numbers_are_given_back(self):
        source = random.Random(4)
        for row in range(100):
            told = answers(numbers_of(random_calls(source, 60)))
            self.assertIs(type(told), list)
            self.assertEqual(set(type(number) for number in told), {int})

    def test_only_refusals_are_below_0(self):
        source = random.Random(5)
        refusals = [[-2], [-6], [-17], [-22], [-28], [-33], [-35], [-61], [-75]]
        for row in range(100):
            for told in split(answers(numbers_of(random_calls(source, 60)))):
                self.assertTrue(told[0] >= 0 or told in refusals, told)
                self.assertTrue(all(number >= 0 for number in told[1:]), told)


class Great(unittest.TestCase):
    """Three hundred calls on the greatest nets."""

    def check(self, laid, call, answer):
        rows = ask(laid + [call] * (300 - len(laid)))
        self.assertEqual(rows[len(laid):], [answer] * (300 - len(laid)), call)

    def test_words(self):
        told = ask([("begin", 2), ("link", 0, 1)] + [("walk", 0, [1] * 40), ("step", 1, 1)] * 149)
        self.assertEqual(told[2:], [[-22], [1, 1, 1, 1, 1]] * 149)
        self.check(FULL + [("stand", 6, 5)], ("meets", 20, [0] * 30), [-33])
        self.check(FULL, ("known", 0, [1, 2, 3, 4, 5, 6]), [6, 2, 4, 6, 8, 10, 10])

    def test_seven_places(self):
        self.check(FULL, ("near", 3, 3), [0, 0])
        self.check(FULL, ("distance", 6, 5), [2])
        self.check(FULL, ("same", 3, 3), [7, 0, 1, 2, 3, 4, 5, 6])
        self.check(FULL, ("state",), [7, 0, 0, 0, 1, 10, 10] + [number for call in FULL[1:] for number in call[1:]])
        links = [(0, 1), (2, 3), (4, 5), (1, 2), (3, 4), (5, 0), (0, 6), (1, 6), (2, 6), (3, 6)]
        self.check(net(7, links) + [("stand", 0, 3)], ("can", 0), [1])
        self.check(net(7, links) + [("stand", 1, 4)], ("found", 2), [3, 1, 0, 2])

    def test_six_places_that_never_meet(self):
        links = [(0, 4), (1, 3), (2, 5), (3, 0), (2, 1), (4, 5), (1, 4), (5, 0), (2, 3)]
        self.check(net(6, links) + [("stand", 0, 3)], ("found", 0), [-33])
        self.check(net(6, links) + [("stand", 0, 1)], ("can", 0), [0])
        self.check(net(6, links), ("near", 0, 1), [1, 1, 2])
        self.check(net(6, links), ("same", 0, 3), [6, 3, 4, 5, 0, 1, 2])

    def test_six_places_that_swallow(self):
        links = [(0, 1), (0, 2), (0, 3), (0, 4), (0, 5), (1, 2), (2, 3), (3, 4), (4, 5), (5, 1)]
        self.check(net(6, links), ("soonest", 0), [8, 1, 2, 3, 4, 5])
        self.check(net(6, links), ("mean", 0), [28, 1, 2, 3, 4, 5])

    def test_five_places_with_a_pebble(self):
        links = [(u, v) for u in range(5) for v in range(u + 1, 5)]
        self.check(net(5, links), ("pebble", 4, 4), [-6])
        self.check(ring(5), ("pebble", 2, 3), [2, 3, 3])


class NothingChangedOrKept(unittest.TestCase):
    def test_the_list_stays_as_it_was(self):
        source = random.Random(1)
        for row in range(100):
            calls = numbers_of(random_calls(source, 60))
            copy = list(calls)
            told = answers(calls)
            self.assertEqual(calls, copy)
            self.assertEqual(answers(Sealed(calls)), told)

    def test_a_second_time_gives_the_same(self):
        source = random.Random(2)
        for row in range(100):
            calls = numbers_of(random_calls(source, 60))
            others = numbers_of(random_calls(source, 60))
            told = answers(calls)
            answers(others)
            self.assertEqual(answers(calls), told)

    def test_nothing_has_begun_the_second_time(self):
        answers(numbers_of(net(3, [(0, 1)])))
        self.assertEqual(ask([("exits", 0), ("back",), ("state",)]), [[-61], [-61], [-61]])

    def test_what_is_given_back_is_the_callers(self):
        calls = numbers_of(net(3, [(0, 1), (1, 2)]) + [("exits", 0), ("classes",), ("soonest", 0), ("state",)])
        told = answers(calls)
        copy = list(told)
        told.clear()
        self.assertEqual(answers(calls), copy)


if __name__ == "__main__":
    unittest.main()
