"""Point 3: step, pass_on, act, settle, seen."""

import unittest

from tests.helper import GREATEST, ask, last, set_up

# Two towers, each against the other; three in a row, the first against the last.
AGAINST = [3, 5]
CHASE = [("start", 3), ("against", 0, 2), ("like", 1, 0), ("like", 2, 1)]


class Step(unittest.TestCase):
    def test_all_at_once(self):
        found = ask(*CHASE, *[("step", 1)] * 6)
        self.assertEqual(found[4:], [[1], [3], [7], [6], [4], [0]])

    def test_many_steps(self):
        for k in (1, 2, 5, 6, 7, 99, 100):
            self.assertEqual(last(*CHASE, ("step", k)), [[0, 1, 3, 7, 6, 4][k % 6]])

    def test_step_that_brings_back_what_was(self):
        self.assertEqual(last(*set_up(AGAINST), ("step", 2)), [0])
        self.assertEqual(last(*set_up(AGAINST), ("step", 1)), [3])
        self.assertEqual(last(*set_up([1]), ("step", 100)), [0])

    def test_k_is_1_to_100(self):
        for name in ("step", "pass_on"):
            for k in (0, 101, 200, GREATEST):
                found = ask(*CHASE, (name, k), ("seen",))
                self.assertEqual(found[4:], [[-22], [0, 1]])

    def test_held_stays_as_it_is(self):
        found = ask(*CHASE, ("step", 1), ("hold", 0), ("step", 1), ("step", 1), ("step", 1), ("seen",))
        self.assertEqual(found[6:], [[3], [7], [7], [7, 7]])


class Pass(unittest.TestCase):
    def test_one_behind_another(self):
        self.assertEqual(ask(*CHASE, *[("pass_on", 1)] * 3)[4:], [[7], [0], [7]])
        self.assertEqual(ask(*set_up(AGAINST), ("pass_on", 1), ("pass_on", 1))[-2:], [[1], [1]])

    def test_against_the_order(self):
        # The first acts last, and sees the third's flag as it is by then: 3, 7, 7, 6.
        found = ask(*CHASE, ("order", 2, 1, 0), *[("pass_on", 1)] * 6)
        self.assertEqual(found[5:], [[1], [3], [6], [4], [1], [3]])

    def test_many_passes(self):
        for k in (1, 2, 3, 99, 100):
            self.assertEqual(last(*CHASE, ("pass_on", k)), [7 * (k % 2)])

    def test_four_towers(self):
        calls = [("start", 4), ("like", 0, 1), ("like", 1, 2), ("like", 2, 3), ("flag", 3, 1)]
        self.assertEqual(ask(*calls, *[("pass_on", 1)] * 4)[5:], [[12], [14], [15], [15]])
        self.assertEqual(last(*calls, ("order", 3, 2, 1, 0), ("pass_on", 1)), [15])


class Act(unittest.TestCase):
    def test_alone(self):
        self.assertEqual(ask(*CHASE, ("act", 1), ("act", 0), ("act", 2), ("act", 1), ("act", 2))[4:],
                         [[0], [1], [1], [3], [7]])

    def test_one_tower(self):
        self.assertEqual(ask(("start", 1), ("against", 0, 0), ("act", 0), ("act", 0), ("act", 0))[2:], [[1], [0], [1]])

    def test_no_such_tower(self):
        for wrong in (3, 4, GREATEST):
            self.assertEqual(ask(*CHASE, ("act", wrong), ("seen",))[4:], [[-2], [0, 1]])

    def test_held_stays(self):
        found = ask(*CHASE, ("hold", 0), ("act", 0), ("free", 0), ("act", 0))
        self.assertEqual(found[5:], [[0], [0], [1]])


class Settle(unittest.TestCase):
    def test_of_0(self):
        self.assertEqual(ask(*CHASE, ("settle", 0), ("seen",))[4:], [[0, 0], [0, 1]])

    def test_the_least_tower_acts(self):
        found = ask(*set_up([3, 5]), ("settle", 1), ("settle", 1))
        self.assertEqual(found[-2:], [[1, 1], [0, 1]])
        found = ask(("start", 3), ("always", 1, 1), ("always", 2, 1), ("settle", 1), ("settle", 1))
        self.assertEqual(found[-2:], [[1, 2], [1, 6]])

    def test_till_none_would(self):
        calls = [("start", 4), ("always", 0, 1), ("like", 1, 0), ("like", 2, 1), ("like", 3, 2)]
        self.assertEqual(ask(*calls, ("settle", 100), ("settle", 100))[5:], [[4, 15], [0, 15]])
        self.assertEqual(last(*calls, ("settle", 3)), [3, 7])
        self.assertEqual(last(*calls, ("settle", 4)), [4, 15])

    def test_where_none_ever_comes_to_rest(self):
        self.assertEqual(last(*CHASE, ("settle", 100)), [100, 6])
        self.assertEqual(last(*set_up([1]), ("settle", 99)), [99, 1])

    def test_above_100(self):
        for k in (101, 102, GREATEST):
            self.assertEqual(ask(*CHASE, ("settle", k), ("seen",))[4:], [[-22], [0, 1]])

    def test_held_does_not_act(self):
        self.assertEqual(last(*CHASE, ("hold", 0), ("settle", 100)), [0, 0])
        self.assertEqual(last(*CHASE, ("flag", 0, 1), ("hold", 0), ("settle", 100)), [2, 7])


class Seen(unittest.TestCase):
    def test_state_and_what_comes_of_it(self):
        for state in range(8):
            comes = [1, 3, 5, 7, 0, 2, 4, 6][state]
            calls = set_up([15, 170, 204], state)
            self.assertEqual(ask(*calls, ("seen",), ("seen",))[-2:], [[state, comes]] * 2)
