"""The interface: how calls stand in the list, what is given back, and that nothing is changed or kept."""

import random
import unittest

from netwanderers.nets import answers
from tests.helper import LATER, ask, net, numbers_of, split


class Sealed(list):
    """A list that fails as soon as somebody tries to change it, for a while even."""

    def refuse(self, *given):
        raise AssertionError("the list handed in was to be changed")

    append = clear = extend = insert = pop = remove = reverse = sort = refuse
    __setitem__ = __delitem__ = __iadd__ = __imul__ = refuse


def random_calls(source, many):
    """Calls of this stage, some of them refused."""
    calls = [("begin", source.randrange(1, 8))]
    while len(calls) < many:
        name = source.choice(["link"] * 8 + ["step"] * 6 + [
            "begin", "unlink", "stand", "put", "take", "back", "looks", "exits", "walk", "apart", "classes",
        ])
        if name in ("link", "stand", "apart"):
            calls.append((name, source.randrange(8), source.randrange(8)))
        elif name == "step":
            calls.append((name, source.randrange(5), source.randrange(5)))
        elif name == "walk":
            calls.append((name, source.randrange(8), [source.randrange(5) for letter in range(source.randrange(41))]))
        elif name == "looks":
            calls.append((name, source.randrange(3)))
        elif name in ("begin", "unlink", "exits"):
            calls.append((name, source.randrange(9)))
        else:
            calls.append((name,))
    return calls


class Form(unittest.TestCase):
    def test_each_answer_has_its_count_ahead(self):
        # begin 3; link 0 1; link 1 2; link 1 1; exits 1; walk 0 by 1, 2; step 1 0; looks 0; apart 0 2; classes; back
        calls = [0, 3, 1, 0, 1, 1, 1, 2, 1, 1, 1, 9, 1, 10, 0, 2, 1, 2, 4, 1, 0, 8, 0, 11, 0, 2, 12, 7]
        self.assertEqual(answers(calls), [
            1, 0, 1, 0, 1, 1, 1, -22, 5, 2, 0, 0, 2, 0, 4, 3, 0, 1, 2, 5, 0, 1, 2, 0, 1, 3, 2, 0, 0, 1, 1,
            4, 3, 0, 1, 2, 1, 2,
        ])

    def test_the_numbers_of_the_other_calls(self):
        # begin 2; link 0 1; stand 1 1; put; put; take; take; unlink 0
        self.assertEqual(answers([0, 2, 1, 0, 1, 3, 1, 1, 5, 5, 6, 6, 2, 0]), [
            1, 0, 1, 0, 1, 0, 1, 0, 1, -17, 1, 0, 1, -17, 1, 0,
        ])

    def test_one_call(self):
        self.assertEqual(answers([0, 7]), [1, 0])
        self.assertEqual(answers([12]), [1, -61])
        self.assertEqual(answers([10, 0, 0]), [1, -61])

    def test_a_refused_call_is_read_to_its_end(self):
        self.assertEqual(answers([10, 0, 3, 0, 1, 2, 0, 1]), [1, -61, 1, 0])
        self.assertEqual(ask([("begin", 2), ("walk", 2, [0, 1]), ("walk", 0, [12] * 31), ("classes",)]), [
            [0], [-2], [-22], [2, 0, 0],
        ])

    def test_calls_of_the_next_stage_are_read_by_their_arguments(self):
        for call in LATER:
            rows = ask([call, ("begin", 2), ("link", 0, 1), call, ("step", 1, 0), call, ("back",), ("back",), ("back",)])
            self.assertEqual(rows[:3] + [rows[4]] + rows[6:], [
                [-61], [0], [0], [0, 1, 1, 0, 1], [1], [0], [-6],
            ], call)

    def test_calls_of_the_next_stage_know_their_places(self):
        calls = [
            ("distance", 2, 0), ("distance", 0, 2), ("near", 0, 2), ("soonest", 2), ("mean", 2), ("known", 2, [0, 1]),
            ("pebble", 0, 2), ("same", 2, 0),
        ]
        self.assertEqual(ask([("begin", 2)] + calls), [[0]] + [[-2]] * len(calls))

    def test_three_hundred_calls(self):
        told = ask([("begin", 2), ("link", 0, 1)] + [("walk", 0, [1] * 40), ("step", 1, 1)] * 149)
        self.assertEqual(told[2:], [[-22], [1, 1, 1, 1, 1]] * 149)

    def test_only_whole_numbers_are_given_back(self):
        source = random.Random(4)
        for row in range(50):
            told = answers(numbers_of(random_calls(source, 60)))
            self.assertIs(type(told), list)
            self.assertEqual(set(type(number) for number in told), {int})

    def test_only_refusals_are_below_0(self):
        source = random.Random(5)
        for row in range(50):
            for told in split(answers(numbers_of(random_calls(source, 60)))):
                self.assertTrue(told[0] >= 0 or told in ([-2], [-6], [-17], [-22], [-28], [-33], [-61]), told)
                self.assertTrue(all(number >= 0 for number in told[1:]), told)


class NothingChangedOrKept(unittest.TestCase):
    def test_the_list_stays_as_it_was(self):
        source = random.Random(1)
        for row in range(100):
            calls = numbers_of(random_calls(source, 60))
            copy = list(calls)
            told = answers(calls)
            self.assertEqual(calls, copy)
            self.assertEqual(answers(Sealed(calls)), told)

    def test_a_second_time_gives_the_same(self):
        source = random.Random(2)
        for row in range(100):
            calls = numbers_of(random_calls(source, 60))
            others = numbers_of(random_calls(source, 60))
            told = answers(calls)
            answers(others)
            self.assertEqual(answers(calls), told)

    def test_nothing_has_begun_the_second_time(self):
        answers(numbers_of(net(3, [(0, 1)])))
        self.assertEqual(ask([("exits", 0), ("back",)]), [[-61], [-61]])

    def test_what_is_given_back_is_the_callers(self):
        calls = numbers_of(net(3, [(0, 1)]) + [("exits", 0), ("classes",)])
        told = answers(calls)
        copy = list(told)
        told.clear()
        self.assertEqual(answers(calls), copy)


class TakenBack(unittest.TestCase):
    ASKED = [("looks", 0), ("looks", 1), ("classes",), ("take",), ("put",)]

    def test_taken_back_all_is_as_it_was(self):
        source = random.Random(3)
        for row in range(200):
            calls = random_calls(source, 30)
            asked = [("exits", place) for place in range(7)] + self.ASKED
            change = random_calls(source, 2)[1]
            if change[0] in ("begin", "back"):
                continue
            before = ask(calls + asked)[len(calls):]
            with_back = ask(calls + [change, ("back",)] + asked)
            without = ask(calls + [("back",)] + asked)
            is_change = change[0] in ("link", "unlink", "stand", "step", "put", "take")
            if is_change and with_back[len(calls)][0] >= 0:
                self.assertEqual(with_back[len(calls) + 2:], before, calls + [change])
            else:
                self.assertEqual(with_back[len(calls) + 1:], without[len(calls):], calls + [change])


if __name__ == "__main__":
    unittest.main()
