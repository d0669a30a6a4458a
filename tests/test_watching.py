"""Point 5: kinds, even, odd, layers."""

import unittest

from tests.helper import Model, last, set_up


def kinds(calls):
    return last(*calls, ("kinds",))


def even(calls):
    return last(*calls, ("even",))


def odd(calls):
    return last(*calls, ("odd",))


def layers(calls):
    return last(*calls, ("layers",))


class Kinds(unittest.TestCase):
    def test_one_tower(self):
        for rule, want in enumerate([[0, 0], [1, 2], [1, 1], [0, 0]]):
            self.assertEqual(kinds(set_up([rule])), want)

    def test_at_first_each_watches_itself(self):
        self.assertEqual(kinds([("start", 3)]), [3, 1, 0, 0, 0, 1, 0, 0, 0, 1])

    def test_who_watches_stands_first(self):
        calls = [("start", 3), ("like", 0, 1), ("against", 1, 2), ("always", 2, 0)]
        self.assertEqual(kinds(calls), [2, 0, 1, 0, 0, 0, 2, 0, 0, 0])

    def test_lifted_and_lowered(self):
        self.assertEqual(kinds(set_up([6, 9])), [4, 3, 3, 3, 3])
        # Up just if the first is and the second is not; the other way round.
        self.assertEqual(kinds(set_up([2, 13])), [4, 1, 2, 2, 1])

    def test_both_and_either(self):
        calls = [("start", 4), ("both", 0, 2, 3), ("either", 3, 0, 1), ("both", 1, 1, 1), ("always", 2, 1)]
        self.assertEqual(kinds(calls), [5, 0, 0, 1, 1, 0, 1, 0, 0, 0, 0, 0, 0, 1, 1, 0, 0])

    def test_in_some_one_state_alone(self):
        # Up just if all flags are up, and just if none is.
        self.assertEqual(kinds(set_up([1 << 15, 1, 0, 65535])), [8] + [1] * 4 + [2] * 4 + [0] * 8)

    def test_a_rule_that_names_but_does_not_hang_on_it(self):
        self.assertEqual(kinds([("start", 2), ("both", 0, 1, 1), ("always", 1, 1)]), [1, 0, 1, 0, 0])

    def test_held_watches_none_but_is_watched(self):
        calls = [("start", 2), ("like", 0, 1), ("against", 1, 0)]
        self.assertEqual(kinds(calls), [2, 0, 1, 2, 0])
        self.assertEqual(kinds(calls + [("hold", 0)]), [1, 0, 0, 2, 0])
        self.assertEqual(kinds(calls + [("hold", 0), ("flag", 0, 1), ("always", 0, 1)]), [1, 0, 0, 2, 0])
        self.assertEqual(kinds(calls + [("hold", 0), ("free", 0)]), [2, 0, 1, 2, 0])


class Even(unittest.TestCase):
    def test_one_tower(self):
        for rule, want in enumerate([[-33], [-33], [1, 0], [-33]]):
            self.assertEqual(even(set_up([rule])), want)

    def test_first_of_the_shortest(self):
        self.assertEqual(even([("start", 4)]), [1, 0])
        self.assertEqual(even([("start", 4), ("always", 0, 1), ("against", 1, 1)]), [1, 2])

    def test_shorter_ahead_of_the_lesser_tower(self):
        calls = [("start", 3), ("like", 0, 1), ("like", 1, 0)]
        self.assertEqual(even(calls), [1, 2])
        self.assertEqual(even(calls + [("against", 2, 2)]), [2, 0, 1])

    def test_two_lowerings_are_even_one_is_not(self):
        calls = [("start", 2), ("against", 0, 1)]
        self.assertEqual(even(calls + [("against", 1, 0)]), [2, 0, 1])
        self.assertEqual(even(calls + [("like", 1, 0)]), [-33])

    def test_lifted_and_lowered_can_be_taken_either_way(self):
        self.assertEqual(even(set_up([6, 0])), [1, 0])
        # Against it by one flag, both ways by the other: no ring alone, that of two can be even.
        self.assertEqual(even([("start", 3), ("rule", 0, 60), ("against", 1, 0), ("always", 2, 0)]), [2, 0, 1])

    def test_ring_goes_from_the_watched_to_who_watches_it(self):
        # 0 is watched by 2, 2 by 1, 1 by 0; and the other way round.
        self.assertEqual(even([("start", 3), ("like", 2, 0), ("like", 1, 2), ("like", 0, 1)]), [3, 0, 2, 1])
        self.assertEqual(even([("start", 3), ("like", 1, 0), ("like", 2, 1), ("like", 0, 2)]), [3, 0, 1, 2])

    def test_ring_of_four(self):
        calls = [("start", 4), ("against", 3, 0), ("like", 1, 3), ("against", 2, 1), ("like", 0, 2)]
        self.assertEqual(even(calls), [4, 0, 3, 1, 2])
        self.assertEqual(even(calls + [("against", 0, 2)]), [-33])
        self.assertEqual(even(calls + [("hold", 1)]), [-33])

    def test_ring_without_tower_0(self):
        calls = [("start", 4), ("always", 0, 1), ("like", 3, 1), ("like", 2, 3), ("like", 1, 2)]
        self.assertEqual(even(calls), [3, 1, 3, 2])

    def test_rings_of_two_in_order(self):
        calls = [("start", 4), ("always", 0, 1), ("either", 1, 2, 3), ("like", 2, 1), ("like", 3, 1)]
        self.assertEqual(even(calls), [2, 1, 2])
        self.assertEqual(even(calls + [("against", 2, 1)]), [2, 1, 3])

    def test_rings_of_three_in_order(self):
        # 2 is up just if 1 is and 0 is not, so the ring of 0 and 2 is odd.
        second = sum(1 << state for state in range(16) if state & 3 == 2)
        calls = [("start", 4), ("either", 0, 2, 3), ("like", 1, 0), ("rule", 2, second), ("against", 3, 2)]
        self.assertEqual(even(calls), [3, 0, 1, 2])
        self.assertEqual(even(calls + [("against", 1, 0)]), [3, 0, 2, 3])

    def test_held_breaks_a_ring(self):
        calls = [("start", 2), ("like", 0, 1), ("like", 1, 0)]
        self.assertEqual(even(calls), [2, 0, 1])
        self.assertEqual(even(calls + [("hold", 1)]), [-33])
        self.assertEqual(even(calls + [("hold", 1), ("free", 1)]), [2, 0, 1])


class Odd(unittest.TestCase):
    def test_one_tower(self):
        for rule, want in enumerate([[-33], [1, 0], [-33], [-33]]):
            self.assertEqual(odd(set_up([rule])), want)

    def test_at_first_there_is_none(self):
        for n in (1, 2, 3, 4):
            self.assertEqual(odd([("start", n)]), [-33])

    def test_first_of_the_shortest(self):
        calls = [("start", 4), ("against", 2, 2), ("against", 3, 3)]
        self.assertEqual(odd(calls), [1, 2])
        self.assertEqual(odd(calls + [("always", 2, 0)]), [1, 3])

    def test_shorter_ahead_of_the_lesser_tower(self):
        calls = [("start", 3), ("like", 0, 1), ("against", 1, 0), ("against", 2, 2)]
        self.assertEqual(odd(calls), [1, 2])
        self.assertEqual(odd(calls + [("like", 2, 2)]), [2, 0, 1])

    def test_one_or_three_lowerings_are_odd_two_are_not(self):
        calls = [("start", 2), ("against", 0, 1)]
        self.assertEqual(odd(calls + [("like", 1, 0)]), [2, 0, 1])
        self.assertEqual(odd(calls + [("against", 1, 0)]), [-33])
        calls = [("start", 3), ("against", 1, 0), ("against", 2, 1)]
        self.assertEqual(odd(calls + [("against", 0, 2)]), [3, 0, 1, 2])
        self.assertEqual(odd(calls + [("like", 0, 2)]), [-33])

    def test_lifted_and_lowered_can_be_taken_either_way(self):
        self.assertEqual(odd(set_up([6, 0])), [1, 0])
        self.assertEqual(even(set_up([6, 0])), [1, 0])
        # Both ways by tower 1 alone, so the ring of two can be odd, and even too.
        calls = [("start", 3), ("rule", 0, 60), ("like", 1, 0), ("always", 2, 0)]
        self.assertEqual(odd(calls), [2, 0, 1])
        self.assertEqual(even(calls), [2, 0, 1])

    def test_ring_goes_from_the_watched_to_who_watches_it(self):
        self.assertEqual(odd([("start", 3), ("against", 2, 0), ("like", 1, 2), ("like", 0, 1)]), [3, 0, 2, 1])
        self.assertEqual(odd([("start", 3), ("against", 1, 0), ("like", 2, 1), ("like", 0, 2)]), [3, 0, 1, 2])

    def test_ring_of_four(self):
        calls = [("start", 4), ("against", 3, 0), ("like", 1, 3), ("against", 2, 1), ("against", 0, 2)]
        self.assertEqual(odd(calls), [4, 0, 3, 1, 2])
        self.assertEqual(odd(calls + [("like", 0, 2)]), [-33])

    def test_ring_without_tower_0(self):
        calls = [("start", 4), ("always", 0, 1), ("like", 3, 1), ("against", 2, 3), ("like", 1, 2)]
        self.assertEqual(odd(calls), [3, 1, 3, 2])

    def test_rings_of_two_in_order(self):
        calls = [("start", 4), ("always", 0, 1), ("either", 1, 2, 3), ("against", 2, 1), ("against", 3, 1)]
        self.assertEqual(odd(calls), [2, 1, 2])
        self.assertEqual(odd(calls + [("like", 2, 1)]), [2, 1, 3])

    def test_held_breaks_a_ring(self):
        calls = [("start", 2), ("against", 0, 1), ("like", 1, 0)]
        self.assertEqual(odd(calls + [("hold", 0)]), [-33])
        self.assertEqual(odd(calls + [("hold", 1)]), [-33])
        self.assertEqual(odd(calls + [("hold", 1), ("free", 1)]), [2, 0, 1])


class Layers(unittest.TestCase):
    def test_one_tower(self):
        for rule, want in enumerate([[1, 0], [-33], [-33], [1, 0]]):
            self.assertEqual(layers(set_up([rule])), want)

    def test_at_first_each_watches_itself(self):
        for n in (1, 2, 3, 4):
            self.assertEqual(layers([("start", n)]), [-33])

    def test_none_watches(self):
        calls = [("start", 3), ("always", 0, 1), ("always", 1, 0), ("always", 2, 1)]
        self.assertEqual(layers(calls), [1, 0, 0, 0])

    def test_one_behind_another(self):
        calls = [("start", 4), ("always", 0, 0), ("against", 1, 0), ("like", 2, 1), ("like", 3, 2)]
        self.assertEqual(layers(calls), [4, 0, 1, 2, 3])
        calls = [("start", 4), ("always", 3, 0), ("against", 2, 3), ("like", 1, 2), ("like", 0, 1)]
        self.assertEqual(layers(calls), [4, 3, 2, 1, 0])

    def test_behind_the_highest(self):
        calls = [("start", 4), ("always", 0, 1), ("like", 1, 0), ("both", 2, 0, 1), ("either", 3, 0, 0)]
        self.assertEqual(layers(calls), [3, 0, 1, 2, 1])
        self.assertEqual(layers(calls + [("both", 3, 2, 0)]), [4, 0, 1, 2, 3])

    def test_a_ring_anywhere(self):
        calls = [("start", 4), ("always", 0, 1), ("like", 1, 0), ("like", 2, 1)]
        self.assertEqual(layers(calls), [-33])
        self.assertEqual(layers(calls + [("like", 3, 2)]), [4, 0, 1, 2, 3])
        self.assertEqual(layers(calls + [("like", 3, 2), ("against", 1, 2)]), [-33])
        self.assertEqual(layers(calls + [("like", 3, 2), ("either", 0, 0, 3)]), [-33])

    def test_held_watches_none(self):
        calls = [("start", 3), ("against", 0, 2), ("like", 1, 0), ("like", 2, 1)]
        self.assertEqual(layers(calls), [-33])
        for j, want in enumerate([[3, 0, 1, 2], [3, 2, 0, 1], [3, 1, 2, 0]]):
            self.assertEqual(layers(calls + [("hold", j)]), want)
            self.assertEqual(layers(calls + [("hold", j), ("free", j)]), [-33])
        self.assertEqual(layers(calls + [("hold", 0), ("hold", 1), ("hold", 2)]), [1, 0, 0, 0])


class AllOfTwoTowers(unittest.TestCase):
    def test_every_two_rules(self):
        for first in range(16):
            for second in range(16):
                model = Model()
                for call in set_up([first, second]):
                    model.call(*call)
                for ask_of in (kinds, even, odd, layers):
                    self.assertEqual(ask_of(set_up([first, second])), model.call(ask_of.__name__))
