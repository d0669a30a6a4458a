"""Point 7: moves, reach, far, traps, may."""

import unittest

from tests.helper import GREATEST, flags_to, last, set_up

APART = [("start", 2), ("against", 0, 1), ("against", 1, 0)]
TURNING = [("start", 2), ("against", 0, 1), ("like", 1, 0)]
# Tower 2 up lets 0 and 1 turn for ever; down, it stays down and they stay as they are.
# By THIRD it goes down where 0 and 1 are both up.
FIRST = sum(1 << s for s in range(8) if (s & 2 == 0 if s & 4 else s & 1))
SECOND = sum(1 << s for s in range(8) if (s & 1 if s & 4 else s & 2))
THIRD = sum(1 << s for s in range(8) if s & 4 and s & 3 != 3)
MAY_STOP = set_up([FIRST, SECOND, THIRD])
GOES_ON = set_up([FIRST, SECOND, 0b11110000])


class Moves(unittest.TestCase):
    def test_one_tower(self):
        for rule, want in enumerate([[[0], [1, 0]], [[1, 0], [1, 0]], [[0], [0]], [[1, 0], [0]]]):
            self.assertEqual([last(*set_up([rule], v), ("moves",)) for v in (0, 1)], want)

    def test_none_at_first(self):
        self.assertEqual(last(("start", 4), ("moves",)), [0])

    def test_rising(self):
        calls = [("start", 4), ("always", 3, 1), ("always", 0, 1), ("always", 2, 1)]
        self.assertEqual(last(*calls, ("moves",)), [3, 0, 2, 3])
        self.assertEqual(last(*calls, ("flag", 2, 1), ("order", 3, 2, 1, 0), ("moves",)), [2, 0, 3])
        self.assertEqual(last(*calls, ("flag", 1, 1), ("always", 1, 0), ("moves",)), [4, 0, 1, 2, 3])

    def test_held_does_not(self):
        self.assertEqual(last(*APART, ("moves",)), [2, 0, 1])
        self.assertEqual(last(*APART, ("hold", 0), ("moves",)), [1, 1])
        self.assertEqual(last(*APART, ("hold", 0), ("hold", 1), ("moves",)), [0])
        self.assertEqual(last(*APART, ("hold", 0), ("free", 0), ("moves",)), [2, 0, 1])


class Reach(unittest.TestCase):
    def test_one_tower(self):
        for rule, want in enumerate([[[1, 0], [2, 0, 1]], [[2, 0, 1]] * 2, [[1, 0], [1, 1]], [[2, 0, 1], [1, 1]]]):
            self.assertEqual([last(*set_up([rule], v), ("reach",)) for v in (0, 1)], want)

    def test_itself_alone_at_rest(self):
        self.assertEqual(last(("start", 4), ("flag", 1, 1), ("flag", 3, 1), ("reach",)), [1, 10])

    def test_one_behind_another(self):
        self.assertEqual(last(*APART, ("reach",)), [3, 0, 1, 2])
        self.assertEqual(last(*APART, ("flag", 0, 1), ("reach",)), [1, 1])
        self.assertEqual(last(*APART, ("flag", 0, 1), ("flag", 1, 1), ("reach",)), [3, 1, 2, 3])
        self.assertEqual(last(*TURNING, ("reach",)), [4, 0, 1, 2, 3])

    def test_not_by_two_flags_at_once(self):
        calls = [("start", 2), ("rule", 0, 0b1001), ("rule", 1, 0b1001)]
        self.assertEqual(last(*calls, ("seen",)), [0, 3])
        self.assertEqual(last(*calls, ("reach",)), [3, 0, 1, 2])

    def test_all_states(self):
        self.assertEqual(last(("start", 4), *[("against", j, j) for j in range(4)], ("reach",)), [16] + list(range(16)))

    def test_held(self):
        self.assertEqual(last(*TURNING, ("hold", 1), ("reach",)), [2, 0, 1])
        self.assertEqual(last(*TURNING, ("flag", 1, 1), ("hold", 1), ("reach",)), [1, 2])


class Far(unittest.TestCase):
    def test_no_state(self):
        for n in (1, 2, 3, 4):
            for x in (1 << n, (1 << n) + 1, GREATEST):
                self.assertEqual(last(("start", n), ("far", x)), [-22])
            self.assertEqual(last(("start", n), ("far", (1 << n) - 1)), [-33])

    def test_itself(self):
        for state in range(8):
            self.assertEqual(last(("start", 3), *flags_to(3, state), ("far", state)), [0])

    def test_not_come_to(self):
        self.assertEqual(last(*APART, ("far", 3)), [-33])
        self.assertEqual(last(*APART, ("flag", 0, 1), ("far", 2)), [-33])

    def test_how_few(self):
        # 0 up, both up, 1 up, none up, and so on.
        self.assertEqual([last(*TURNING, ("far", x)) for x in range(4)], [[0], [1], [3], [2]])
        calls = [("start", 4), *[("against", j, j) for j in range(4)]]
        self.assertEqual([last(*calls, ("far", x)) for x in (0, 8, 5, 14, 15)], [[0], [1], [2], [3], [4]])

    def test_by_the_shorter_way(self):
        # To 1 and 2 up from none up: by 0 first, or at once if the rule lets it.
        calls = [("start", 3), ("always", 0, 1), ("always", 1, 1), ("both", 2, 0, 1)]
        self.assertEqual(last(*calls, ("far", 7)), [3])
        self.assertEqual(last(*calls, ("far", 6)), [-33])
        self.assertEqual(last(*calls, ("against", 0, 2), ("far", 6)), [4])
        self.assertEqual(last(*calls, ("against", 0, 2), ("either", 2, 0, 1), ("far", 6)), [2])

    def test_held(self):
        self.assertEqual(last(*TURNING, ("hold", 1), ("far", 1)), [1])
        self.assertEqual(last(*TURNING, ("hold", 1), ("far", 2)), [-33])
        self.assertEqual(last(*TURNING, ("hold", 1), ("far", 4)), [-22])


class Traps(unittest.TestCase):
    def test_one_tower(self):
        for rule, want in enumerate([[1, 0, 1], [1, 0, 2], [2, 0, 1, 1, 1], [1, 1, 1]]):
            self.assertEqual(last(*set_up([rule]), ("traps",)), want)

    def test_each_state_at_rest(self):
        want = [16] + [part for state in range(16) for part in (state, 1)]
        self.assertEqual(last(("start", 4), ("traps",)), want)
        self.assertEqual(last(*APART, ("traps",)), [2, 1, 1, 2, 1])

    def test_all_states_one_trap(self):
        self.assertEqual(last(*TURNING, ("traps",)), [1, 0, 4])
        self.assertEqual(last(("start", 4), *[("against", j, j) for j in range(4)], ("traps",)), [1, 0, 16])

    def test_what_leads_out_is_none(self):
        # With 2 up all four states are come to from one another, but one leads out.
        self.assertEqual(last(*MAY_STOP, ("traps",)), [4, 0, 1, 1, 1, 2, 1, 3, 1])
        self.assertEqual(last(*GOES_ON, ("traps",)), [5, 0, 1, 1, 1, 2, 1, 3, 1, 4, 4])

    def test_by_the_least_state_whatever_the_state_is(self):
        calls = [("start", 3), ("against", 2, 2)]
        for state in range(8):
            self.assertEqual(last(*calls, *flags_to(3, state), ("traps",)), [4, 0, 2, 1, 2, 2, 2, 3, 2])

    def test_held(self):
        self.assertEqual(last(*TURNING, ("hold", 0), ("traps",)), [1, 0, 1])
        self.assertEqual(last(*TURNING, ("flag", 0, 1), ("hold", 0), ("traps",)), [1, 3, 1])
        self.assertEqual(last(*GOES_ON, ("hold", 2), ("traps",)), [4, 0, 1, 1, 1, 2, 1, 3, 1])
        self.assertEqual(last(*GOES_ON, ("flag", 2, 1), ("hold", 2), ("traps",)), [1, 4, 4])


class May(unittest.TestCase):
    def test_one_tower(self):
        for rule, want in enumerate([[2], [0], [2], [2]]):
            for v in (0, 1):
                self.assertEqual(last(*set_up([rule], v), ("may",)), want)

    def test_at_rest(self):
        self.assertEqual(last(("start", 4), ("may",)), [2])

    def test_never(self):
        self.assertEqual(last(*TURNING, ("may",)), [0])
        self.assertEqual(last(*GOES_ON, ("flag", 2, 1), ("may",)), [0])

    def test_ever(self):
        self.assertEqual(last(*APART, ("may",)), [2])
        for state in range(8):
            self.assertEqual(last(*MAY_STOP, *flags_to(3, state), ("may",)), [2])

    def test_from_here_but_not_from_each(self):
        # 0 and 1 would both change: with 0 up all stays, with 1 up first 2 turns for ever.
        third = sum(1 << s for s in range(8) if s & 2 and not s & 4)
        first = sum(1 << s for s in range(8) if s & 1 or not s & 2)
        second = sum(1 << s for s in range(8) if s & 2 or not s & 1)
        calls = set_up([first, second, third])
        self.assertEqual(last(*calls, ("may",)), [1])
        self.assertEqual(last(*calls, ("flag", 0, 1), ("may",)), [2])
        self.assertEqual(last(*calls, ("flag", 1, 1), ("may",)), [0])

    def test_held(self):
        self.assertEqual(last(*TURNING, ("hold", 0), ("may",)), [2])
        self.assertEqual(last(*TURNING, ("hold", 0), ("free", 0), ("may",)), [0])
