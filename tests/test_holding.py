"""Point 8: cut, cut_even, fewest, comes."""

import unittest

from tests.helper import GREATEST, last, set_up

CHAIN = [("start", 4), ("always", 0, 1), ("like", 1, 0), ("like", 2, 1), ("like", 3, 2)]
APART = [("start", 2), ("against", 0, 1), ("against", 1, 0)]
TURNING = [("start", 2), ("against", 0, 1), ("like", 1, 0)]


class Cut(unittest.TestCase):
    def test_one_tower(self):
        for rule, want in enumerate([[0, 0], [1, 1], [1, 1], [0, 0]]):
            self.assertEqual(last(*set_up([rule]), ("cut",)), want)

    def test_without_a_ring_none(self):
        self.assertEqual(last(*CHAIN, ("cut",)), [0, 0])

    def test_each_a_ring_alone(self):
        for n in (1, 2, 3, 4):
            self.assertEqual(last(("start", n), ("cut",)), [n, (1 << n) - 1])

    def test_the_least_set(self):
        self.assertEqual(last(*APART, ("cut",)), [1, 1])
        calls = [("start", 4), ("like", 2, 0), ("like", 0, 2), ("always", 1, 1), ("like", 3, 2)]
        self.assertEqual(last(*calls, ("cut",)), [1, 1])
        # Now a second ring, and tower 2 alone is in both.
        self.assertEqual(last(*calls, ("either", 2, 0, 3), ("cut",)), [1, 4])
        # Two rings apart: the least tower of each.
        calls = [("start", 4), ("like", 0, 3), ("like", 3, 0), ("against", 1, 2), ("like", 2, 1)]
        self.assertEqual(last(*calls, ("cut",)), [2, 3])

    def test_smaller_ahead_of_the_lesser(self):
        # Tower 3 is in every ring; without it one needs 0, 1 and 2.
        calls = [("start", 4), ("like", 0, 3), ("like", 1, 3), ("like", 2, 3), ("rule", 3, 65534)]
        self.assertEqual(last(*calls, ("cut",)), [1, 8])

    def test_odd_rings_too(self):
        self.assertEqual(last(*TURNING, ("cut",)), [1, 1])

    def test_held(self):
        self.assertEqual(last(*APART, ("hold", 1), ("cut",)), [0, 0])
        self.assertEqual(last(("start", 3), ("hold", 1), ("cut",)), [2, 5])
        self.assertEqual(last(("start", 3), ("hold", 1), ("free", 1), ("cut",)), [3, 7])


class CutEven(unittest.TestCase):
    def test_one_tower(self):
        for rule, want in enumerate([[0, 0], [0, 0], [1, 1], [0, 0]]):
            self.assertEqual(last(*set_up([rule]), ("cut_even",)), want)

    def test_odd_rings_are_left(self):
        self.assertEqual(last(*TURNING, ("cut_even",)), [0, 0])
        self.assertEqual(last(*APART, ("cut_even",)), [1, 1])
        calls = [("start", 4), ("against", 0, 0), ("like", 2, 3), ("like", 3, 2)]
        self.assertEqual(last(*calls, ("cut_even",)), [2, 6])
        self.assertEqual(last(*calls, ("cut",)), [3, 7])

    def test_what_can_be_both_is_even_too(self):
        self.assertEqual(last(*set_up([0, 6]), ("cut_even",)), [1, 2])

    def test_without_a_ring_none(self):
        self.assertEqual(last(*CHAIN, ("cut_even",)), [0, 0])

    def test_held(self):
        self.assertEqual(last(("start", 4), ("hold", 0), ("hold", 3), ("cut_even",)), [2, 6])
        self.assertEqual(last(*APART, ("hold", 0), ("cut_even",)), [0, 0])


class Fewest(unittest.TestCase):
    def test_one_tower(self):
        for rule, want in enumerate([[0, 0], [1, 1], [1, 1], [0, 0]]):
            self.assertEqual(last(*set_up([rule]), ("fewest",)), want)

    def test_none_if_all_settle(self):
        self.assertEqual(last(*CHAIN, ("fewest",)), [0, 0])

    def test_a_ring_that_settles_by_itself(self):
        # Tower 1 turns while 0 is up, but 0 is always down.
        calls = set_up([0, 2])
        self.assertEqual(last(*calls, ("cut",)), [1, 2])
        self.assertEqual(last(*calls, ("fewest",)), [0, 0])

    def test_each_stays(self):
        for n in (1, 2, 3, 4):
            self.assertEqual(last(("start", n), ("fewest",)), [n, (1 << n) - 1])

    def test_the_least_of_the_smallest(self):
        self.assertEqual(last(*APART, ("fewest",)), [1, 1])
        self.assertEqual(last(*TURNING, ("fewest",)), [1, 1])
        calls = [("start", 4), ("like", 0, 3), ("like", 1, 3), ("like", 2, 3), ("rule", 3, 65534)]
        self.assertEqual(last(*calls, ("fewest",)), [1, 8])
        calls = [("start", 4), ("like", 0, 3), ("like", 3, 0), ("against", 1, 2), ("like", 2, 1)]
        self.assertEqual(last(*calls, ("fewest",)), [2, 3])

    def test_a_round_of_more_than_one_is_no_rest(self):
        # All come to one round, but there is no rest.
        self.assertEqual(last(*TURNING, ("rounds",)), [1, 0, 4])
        self.assertEqual(last(*set_up([1]), ("fewest",)), [1, 1])

    def test_however_they_are_held(self):
        # With 0 held down all settle, held up it lets tower 1 turn; with 1 held 0 stays.
        calls = [("start", 2), ("rule", 0, 0b1010), ("rule", 1, 0b0010)]
        self.assertEqual(last(*calls, ("comes", 1, 0)), [0])
        self.assertEqual(last(*calls, ("comes", 1, 1)), [-33])
        self.assertEqual(last(*calls, ("fewest",)), [2, 3])

    def test_held_already(self):
        self.assertEqual(last(("start", 3), ("hold", 1), ("fewest",)), [2, 5])
        self.assertEqual(last(*APART, ("hold", 1), ("fewest",)), [0, 0])
        calls = [("start", 2), ("rule", 0, 0b1010), ("rule", 1, 0b0010)]
        self.assertEqual(last(*calls, ("hold", 0), ("fewest",)), [0, 0])
        self.assertEqual(last(*calls, ("flag", 0, 1), ("hold", 0), ("fewest",)), [1, 2])
        self.assertEqual(last(*calls, ("hold", 0), ("flag", 0, 1), ("fewest",)), [1, 2])


class Comes(unittest.TestCase):
    def test_no_set(self):
        for n in (1, 2, 3, 4):
            many = 1 << n
            pairs = [(many, 0), (many, many), (GREATEST, 0), (GREATEST, GREATEST), (0, many), (many - 1, many)]
            for h, v in pairs + [(0, GREATEST), (many - 1, many + 1)]:
                self.assertEqual(last(("start", n), ("comes", h, v)), [-22])

    def test_what_is_not_in_the_set(self):
        self.assertEqual(last(("start", 2), ("comes", 1, 2)), [-22])
        self.assertEqual(last(("start", 2), ("comes", 1, 3)), [-22])
        self.assertEqual(last(("start", 2), ("comes", 0, 1)), [-22])
        self.assertEqual(last(("start", 2), ("comes", 3, 1)), [1])

    def test_refused_numbers_come_first(self):
        # They don't all settle either, so both refusals are due.
        self.assertEqual(last(*APART, ("comes", 0, 0)), [-33])
        self.assertEqual(last(*APART, ("comes", 0, 1)), [-22])
        self.assertEqual(last(*APART, ("comes", 4, 0)), [-22])
        self.assertEqual(last(*APART, ("comes", 0, 4)), [-22])

    def test_they_do_not_all_settle(self):
        self.assertEqual(last(("start", 2), ("comes", 1, 0)), [-33])
        self.assertEqual(last(*TURNING, ("comes", 0, 0)), [-33])
        self.assertEqual(last(*set_up([1]), ("comes", 0, 0)), [-33])

    def test_where_all_settle(self):
        self.assertEqual(last(*CHAIN, ("comes", 0, 0)), [15])
        self.assertEqual(last(*CHAIN, ("comes", 4, 0)), [3])
        self.assertEqual(last(*CHAIN, ("comes", 5, 4)), [12])
        self.assertEqual(last(*APART, ("comes", 1, 0)), [2])
        self.assertEqual(last(*APART, ("comes", 1, 1)), [1])
        self.assertEqual(last(*APART, ("comes", 2, 2)), [2])
        self.assertEqual(last(*TURNING, ("comes", 2, 2)), [2])
        self.assertEqual(last(*TURNING, ("comes", 2, 0)), [1])

    def test_all_of_them_held(self):
        for v in range(16):
            self.assertEqual(last(("start", 4), ("comes", 15, v)), [v])

    def test_flags_as_they_are_do_not_matter(self):
        self.assertEqual(last(*APART, ("flag", 0, 1), ("comes", 1, 0)), [2])
        self.assertEqual(last(*CHAIN, ("flag", 3, 1), ("comes", 1, 0)), [0])

    def test_held_already(self):
        self.assertEqual(last(*APART, ("hold", 0), ("comes", 0, 0)), [2])
        self.assertEqual(last(*APART, ("flag", 0, 1), ("hold", 0), ("comes", 0, 0)), [1])
        self.assertEqual(last(*APART, ("hold", 0), ("flag", 0, 1), ("comes", 0, 0)), [1])
        self.assertEqual(last(("start", 2), ("hold", 0), ("comes", 2, 2)), [2])
        self.assertEqual(last(("start", 2), ("hold", 0), ("flag", 0, 1), ("comes", 2, 2)), [3])

    def test_held_already_but_told_otherwise(self):
        self.assertEqual(last(*APART, ("hold", 0), ("comes", 1, 1)), [1])
        self.assertEqual(last(*APART, ("flag", 0, 1), ("hold", 0), ("comes", 1, 0)), [2])
