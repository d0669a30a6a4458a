"""Point 6: rests, sweeps, best, brings."""

import unittest

from tests.helper import ask, flags_to, last, set_up

# Each flag is as the one before it; tower 0 is always up.
CHAIN = [("start", 4), ("always", 0, 1), ("like", 1, 0), ("like", 2, 1), ("like", 3, 2)]
APART = [("start", 2), ("against", 0, 1), ("against", 1, 0)]
TURNING = [("start", 2), ("against", 0, 1), ("like", 1, 0)]


class Rests(unittest.TestCase):
    def test_one_tower(self):
        for rule, want in enumerate([[1, 0], [0], [2, 0, 1], [1, 1]]):
            self.assertEqual(last(*set_up([rule]), ("rests",)), want)

    def test_at_first_all_states(self):
        for n in (1, 2, 3, 4):
            self.assertEqual(last(("start", n), ("rests",)), [1 << n] + list(range(1 << n)))

    def test_rising(self):
        self.assertEqual(last(*APART, ("rests",)), [2, 1, 2])
        self.assertEqual(last(("start", 3), ("always", 1, 1), ("rests",)), [4, 2, 3, 6, 7])

    def test_none(self):
        self.assertEqual(last(*TURNING, ("rests",)), [0])

    def test_whatever_the_state_is(self):
        for state in range(4):
            self.assertEqual(last(*APART, *flags_to(2, state), ("rests",)), [2, 1, 2])

    def test_held(self):
        self.assertEqual(last(*APART, ("hold", 0), ("rests",)), [1, 2])
        self.assertEqual(last(*APART, ("flag", 0, 1), ("hold", 0), ("rests",)), [1, 1])
        self.assertEqual(last(*TURNING, ("hold", 1), ("rests",)), [1, 1])


class Sweeps(unittest.TestCase):
    def test_one_tower(self):
        for rule, want in enumerate([[[0, 0], [1, 0]], [[-33], [-33]], [[0, 0], [0, 1]], [[1, 1], [0, 1]]]):
            for state in (0, 1):
                self.assertEqual(last(*set_up([rule], state), ("sweeps",)), want[state])

    def test_at_rest_already(self):
        self.assertEqual(last(("start", 3), ("flag", 2, 1), ("sweeps",)), [0, 4])

    def test_by_the_order(self):
        self.assertEqual(last(*CHAIN, ("sweeps",)), [1, 15])
        self.assertEqual(last(*CHAIN, ("order", 3, 2, 1, 0), ("sweeps",)), [4, 15])
        self.assertEqual(last(*CHAIN, ("order", 1, 0, 2, 3), ("sweeps",)), [2, 15])
        self.assertEqual(last(*CHAIN, ("order", 1, 3, 0, 2), ("sweeps",)), [3, 15])

    def test_the_order_tells_where(self):
        self.assertEqual(last(*APART, ("sweeps",)), [1, 1])
        self.assertEqual(last(*APART, ("order", 1, 0), ("sweeps",)), [1, 2])

    def test_behind_none(self):
        self.assertEqual(last(*TURNING, ("sweeps",)), [-33])

    def test_rest_there_is_but_not_from_here(self):
        # Tower 2 up lets 0 and 1 turn; down, they stay.
        first = sum(1 << s for s in range(8) if (s & 2 == 0 if s & 4 else s & 1))
        second = sum(1 << s for s in range(8) if (s & 1 if s & 4 else s & 2))
        calls = [("start", 3), ("rule", 0, first), ("rule", 1, second)]
        self.assertEqual(last(*calls, ("rests",)), [4, 0, 1, 2, 3])
        self.assertEqual(last(*calls, ("sweeps",)), [0, 0])
        self.assertEqual(last(*calls, ("flag", 2, 1), ("sweeps",)), [-33])

    def test_passes_not_steps(self):
        # All at once both turn for ever, a pass brings rest.
        self.assertEqual(last(*APART, ("rounds",)), [3, 0, 2, 1, 1, 2, 1])
        self.assertEqual(last(*APART, ("flag", 0, 1), ("flag", 1, 1), ("sweeps",)), [1, 2])

    def test_held(self):
        self.assertEqual(last(*TURNING, ("hold", 0), ("sweeps",)), [0, 0])
        self.assertEqual(last(*TURNING, ("flag", 1, 1), ("hold", 0), ("sweeps",)), [1, 0])
        self.assertEqual(last(*CHAIN, ("hold", 2), ("sweeps",)), [1, 3])


class Best(unittest.TestCase):
    def test_one_tower(self):
        for rule, want in enumerate([[1, 0], [-33], [1, 0], [1, 0]]):
            self.assertEqual(last(*set_up([rule]), ("best",)), want)

    def test_at_first_every_order(self):
        for n, many in ((1, 1), (2, 2), (3, 6), (4, 24)):
            self.assertEqual(last(("start", n), ("best",)), [many] + list(range(n)))

    def test_one_order_alone(self):
        self.assertEqual(last(*CHAIN, ("best",)), [1, 0, 1, 2, 3])
        calls = [("start", 4), ("always", 2, 1), ("like", 0, 2), ("like", 3, 0), ("like", 1, 3)]
        self.assertEqual(last(*calls, ("best",)), [1, 2, 0, 3, 1])

    def test_the_first_of_some(self):
        calls = [("start", 3), ("always", 2, 0), ("against", 0, 2), ("against", 1, 2)]
        self.assertEqual(last(*calls, ("best",)), [2, 2, 0, 1])
        self.assertEqual(last(*APART, ("best",)), [2, 0, 1])

    def test_in_none(self):
        self.assertEqual(last(*TURNING, ("best",)), [-33])
        # At rest at once from some states, from others never.
        self.assertEqual(last(("start", 2), ("rule", 0, 0b0110), ("best",)), [-33])

    def test_from_each_state_not_from_this_alone(self):
        calls = [("start", 3), ("like", 0, 1), ("like", 1, 2)]
        self.assertEqual(last(*calls, ("sweeps",)), [0, 0])
        self.assertEqual(last(*calls, ("best",)), [3, 1, 0, 2])
        self.assertEqual(last(*calls, ("flag", 2, 1), ("best",)), [3, 1, 0, 2])

    def test_the_order_as_it_is_does_not_matter(self):
        self.assertEqual(last(*CHAIN, ("order", 3, 2, 1, 0), ("best",)), [1, 0, 1, 2, 3])

    def test_held(self):
        self.assertEqual(last(*TURNING, ("hold", 0), ("best",)), [1, 0, 1])
        self.assertEqual(last(*TURNING, ("hold", 1), ("best",)), [1, 1, 0])


class Brings(unittest.TestCase):
    def test_one_tower(self):
        for rule, want in enumerate([[0, 0], [1, 0], [0, 1], [1, 1]]):
            self.assertEqual([last(*set_up([rule], v), ("brings",)) for v in (0, 1)], [[1, v] for v in want])

    def test_at_rest_itself_alone(self):
        self.assertEqual(last(("start", 4), ("flag", 3, 1), ("brings",)), [1, 8])

    def test_one_order_or_another(self):
        self.assertEqual(last(*APART, ("brings",)), [2, 1, 2])
        self.assertEqual(last(*APART, ("flag", 0, 1), ("brings",)), [1, 1])
        self.assertEqual(last(*TURNING, ("brings",)), [2, 1, 3])
        self.assertEqual(last(*CHAIN, ("brings",)), [4, 1, 3, 7, 15])

    def test_rising_and_each_once(self):
        found = last(("start", 3), ("against", 0, 1), ("against", 1, 2), ("against", 2, 0), ("brings",))
        self.assertEqual(found, [3, 3, 5, 6])

    def test_the_order_as_it_is_does_not_matter(self):
        self.assertEqual(last(*TURNING, ("order", 1, 0), ("brings",)), [2, 1, 3])

    def test_held(self):
        self.assertEqual(last(*APART, ("hold", 1), ("brings",)), [1, 1])
        self.assertEqual(last(*APART, ("hold", 0), ("hold", 1), ("brings",)), [1, 0])


class AsPassed(unittest.TestCase):
    def test_sweeps_is_what_passes_bring(self):
        for order in ((0, 1, 2, 3), (3, 1, 2, 0), (2, 3, 0, 1)):
            passes, end = last(*CHAIN, ("order", *order), ("sweeps",))
            found = ask(*CHAIN, ("order", *order), *[("pass_on", 1)] * passes)[6:]
            self.assertEqual(found[-1], [end])
            self.assertNotIn([end], found[:-1])
