"""Point 9: rises, least, greatest, join, meet."""

import unittest
from itertools import product

from tests.helper import GREATEST, last, set_up

CHAIN = [("start", 4), ("always", 0, 1), ("like", 1, 0), ("like", 2, 1), ("like", 3, 2)]
# Each up just if the other is: none or both.
ALIKE = [("start", 2), ("like", 0, 1), ("like", 1, 0)]
# 0 and 1 stay, 2 is up just if both are; so is 3 if one is.
GATES = [("start", 4), ("both", 2, 0, 1), ("either", 3, 0, 1)]


class Rises(unittest.TestCase):
    def test_one_tower(self):
        for rule, want in enumerate([1, 0, 1, 1]):
            self.assertEqual(last(*set_up([rule]), ("rises",)), [want])

    def test_stay_always_both_and_either(self):
        for n in (1, 2, 3, 4):
            self.assertEqual(last(("start", n), ("rises",)), [1])
        for calls in (CHAIN, ALIKE, GATES):
            self.assertEqual(last(*calls, ("rises",)), [1])

    def test_against_does_not(self):
        self.assertEqual(last(("start", 4), ("against", 3, 0), ("rises",)), [0])
        self.assertEqual(last(("start", 2), ("rule", 1, 0b0110), ("rises",)), [0])

    def test_by_one_state_alone(self):
        # Up from three flags on is rising; not if it's down again with all four.
        rule = sum(1 << s for s in range(16) if bin(s).count("1") >= 3)
        self.assertEqual(last(("start", 4), ("rule", 2, rule), ("rises",)), [1])
        self.assertEqual(last(("start", 4), ("rule", 2, rule - (1 << 15)), ("rises",)), [0])

    def test_just_if_none_is_lowered(self):
        for rules in product(range(16), repeat=2):
            found = last(*set_up(rules), ("kinds",))[1:]
            self.assertEqual(last(*set_up(rules), ("rises",)), [int(max(found) < 2)])

    def test_held(self):
        calls = [("start", 2), ("against", 0, 1), ("like", 1, 0)]
        self.assertEqual(last(*calls, ("rises",)), [0])
        self.assertEqual(last(*calls, ("hold", 0), ("rises",)), [1])
        self.assertEqual(last(*calls, ("hold", 1), ("rises",)), [0])
        self.assertEqual(last(*calls, ("hold", 0), ("free", 0), ("rises",)), [0])


class LeastAndGreatest(unittest.TestCase):
    def both_of(self, *calls):
        return [last(*calls, ("least",)), last(*calls, ("greatest",))]

    def test_one_tower(self):
        wants = [[[0, 0], [0, 1]], [[-16], [-16]], [[0, 0], [1, 0]], [[1, 1], [1, 0]]]
        for rule, want in enumerate(wants):
            for v in (0, 1):
                self.assertEqual(self.both_of(*set_up([rule], v)), want)

    def test_at_first(self):
        for n in (1, 2, 3, 4):
            self.assertEqual(self.both_of(("start", n)), [[0, 0], [(1 << n) - 1, 0]])

    def test_behind_how_few_steps(self):
        self.assertEqual(self.both_of(*CHAIN), [[15, 4], [15, 0]])
        self.assertEqual(self.both_of(*CHAIN, ("always", 0, 0)), [[0, 0], [0, 4]])
        self.assertEqual(self.both_of(*CHAIN, ("like", 2, 0)), [[15, 3], [15, 0]])
        self.assertEqual(self.both_of(*GATES, ("always", 1, 1)), [[10, 2], [15, 0]])
        self.assertEqual(self.both_of(*GATES, ("always", 1, 0)), [[0, 0], [9, 2]])

    def test_more_than_one_at_rest(self):
        self.assertEqual(self.both_of(*ALIKE), [[0, 0], [3, 0]])
        self.assertEqual(self.both_of(*ALIKE, ("flag", 0, 1)), [[0, 0], [3, 0]])

    def test_they_do_not_rise(self):
        # There is one state at rest, but the rules don't rise.
        calls = [("start", 2), ("always", 0, 1), ("against", 1, 0)]
        self.assertEqual(last(*calls, ("rests",)), [1, 1])
        self.assertEqual(self.both_of(*calls), [[-16], [-16]])

    def test_held(self):
        self.assertEqual(self.both_of(*CHAIN, ("hold", 1)), [[1, 1], [1, 3]])
        self.assertEqual(self.both_of(*CHAIN, ("hold", 1), ("flag", 1, 1)), [[15, 3], [15, 0]])
        calls = [("start", 2), ("against", 0, 1), ("like", 1, 0)]
        self.assertEqual(self.both_of(*calls, ("hold", 0)), [[0, 0], [0, 2]])
        self.assertEqual(self.both_of(*calls, ("flag", 0, 1), ("hold", 0)), [[3, 2], [3, 0]])


class JoinAndMeet(unittest.TestCase):
    def both_of(self, calls, x, y):
        return [last(*calls, ("join", x, y)), last(*calls, ("meet", x, y))]

    def test_no_state(self):
        for n in (1, 2, 3, 4):
            for x, y in ((1 << n, 0), (0, 1 << n), (GREATEST, GREATEST), ((1 << n) - 1, (1 << n) + 1)):
                self.assertEqual(self.both_of([("start", n)], x, y), [[-22]] * 2)

    def test_they_do_not_rise(self):
        self.assertEqual(self.both_of([("start", 2), ("against", 0, 0)], 0, 0), [[-16]] * 2)
        self.assertEqual(self.both_of([("start", 2), ("always", 0, 1), ("against", 1, 0)], 1, 1), [[-16]] * 2)

    def test_not_at_rest(self):
        for x, y in ((1, 0), (0, 2), (1, 2), (3, 1)):
            self.assertEqual(self.both_of(ALIKE, x, y), [[-33]] * 2)

    def test_the_refusal_told_first(self):
        # Neither a state nor rising; neither rising nor at rest; no state, not at rest.
        falling = [("start", 2), ("against", 0, 1), ("like", 1, 0)]
        for x, y in ((4, 0), (0, 4), (GREATEST, 1)):
            self.assertEqual(self.both_of(falling, x, y), [[-22]] * 2)
            self.assertEqual(self.both_of(ALIKE, x, y), [[-22]] * 2)
        self.assertEqual(self.both_of(ALIKE, 4, 1), [[-22]] * 2)
        self.assertEqual(self.both_of(ALIKE, 1, 4), [[-22]] * 2)
        for x, y in ((0, 0), (3, 1), (2, 2)):
            self.assertEqual(self.both_of(falling, x, y), [[-16]] * 2)

    def test_at_first_all_flags_of_either_and_of_both(self):
        for x, y in product(range(8), repeat=2):
            self.assertEqual(self.both_of([("start", 3)], x, y), [[x | y], [x & y]])

    def test_with_itself(self):
        for x in (0, 3):
            self.assertEqual(self.both_of(ALIKE, x, x), [[x], [x]])

    def test_one_under_the_other(self):
        self.assertEqual(self.both_of(ALIKE, 0, 3), [[3], [0]])
        self.assertEqual(self.both_of(ALIKE, 3, 0), [[3], [0]])

    def test_not_just_the_flags_of_either(self):
        # At rest are 0, 9, 10 and 15: both up bring 2 too.
        self.assertEqual(last(*GATES, ("rests",)), [4, 0, 9, 10, 15])
        self.assertEqual(self.both_of(GATES, 9, 10), [[15], [0]])
        self.assertEqual(self.both_of(GATES, 10, 9), [[15], [0]])
        self.assertEqual(self.both_of(GATES, 0, 10), [[10], [0]])
        self.assertEqual(self.both_of(GATES, 15, 9), [[15], [9]])

    def test_not_just_the_flags_of_both(self):
        # At rest are 0, 7, 11 and 15: what 7 and 11 both have, 3, is not at rest.
        either = sum(1 << s for s in range(16) if s & 12)
        calls = [("start", 4), ("rule", 0, either), ("rule", 1, either)]
        self.assertEqual(last(*calls, ("rests",)), [4, 0, 7, 11, 15])
        self.assertEqual(self.both_of(calls, 7, 11), [[15], [0]])
        self.assertEqual(self.both_of(calls, 7, 15), [[15], [7]])

    def test_held(self):
        self.assertEqual(self.both_of(ALIKE + [("hold", 0)], 0, 0), [[0], [0]])
        self.assertEqual(self.both_of(ALIKE + [("hold", 0)], 3, 0), [[-33]] * 2)
        self.assertEqual(self.both_of(ALIKE + [("hold", 0), ("flag", 0, 1)], 3, 3), [[3], [3]])
        calls = [("start", 2), ("against", 0, 1)]
        self.assertEqual(self.both_of(calls + [("hold", 0)], 0, 2), [[2], [0]])
