"""Point 4: round_of, rounds, before, gardens, basin."""

import unittest

from tests.helper import ask, set_up

LOOKS = [("round_of",), ("rounds",), ("before",), ("gardens",), ("basin",)]


def looks(calls):
    return ask(*calls, *LOOKS)[len(calls):]


def rules_by(nexts):
    """The rules by which these states come, each of the state of its place."""
    n = len(nexts).bit_length() - 1
    return [sum(((come >> j) & 1) << state for state, come in enumerate(nexts)) for j in range(n)]


class AllAtOnce(unittest.TestCase):
    def test_one_tower(self):
        self.assertEqual(looks(set_up([2])), [[0, 1, 0], [2, 0, 1, 1, 1], [1, 0], [0], [1]])
        self.assertEqual(looks(set_up([1])), [[0, 2, 0, 1], [1, 0, 2], [1, 1], [0], [2]])
        self.assertEqual(looks(set_up([1], 1)), [[0, 2, 1, 0], [1, 0, 2], [1, 0], [0], [2]])
        self.assertEqual(looks(set_up([3])), [[1, 1, 1], [1, 1, 1], [0], [1, 0], [2]])

    def test_two_towers(self):
        nexts = rules_by([3, 2, 1, 0])
        self.assertEqual(looks(set_up(nexts, 2)), [[0, 2, 2, 1], [2, 0, 2, 1, 2], [1, 1], [0], [2]])

    def test_a_long_way_and_a_round_from_where_it_comes_there(self):
        # 0 > 5 > 7 > 3 > 6 > 2 > 3, and 1 > 4 > 4.
        rules = rules_by([5, 4, 3, 6, 4, 7, 2, 3])
        rounds, gardens = [2, 2, 3, 4, 1], [2, 0, 1]
        self.assertEqual(looks(set_up(rules, 0)), [[3, 3, 3, 6, 2], rounds, [0], gardens, [6]])
        self.assertEqual(looks(set_up(rules, 7)), [[1, 3, 3, 6, 2], rounds, [1, 5], gardens, [6]])
        self.assertEqual(looks(set_up(rules, 6)), [[0, 3, 6, 2, 3], rounds, [1, 3], gardens, [6]])
        self.assertEqual(looks(set_up(rules, 3)), [[0, 3, 3, 6, 2], rounds, [2, 2, 7], gardens, [6]])
        self.assertEqual(looks(set_up(rules, 1)), [[1, 1, 4], rounds, [0], gardens, [2]])
        self.assertEqual(looks(set_up(rules, 4)), [[0, 1, 4], rounds, [2, 1, 4], gardens, [2]])

    def test_four_towers_in_one_round(self):
        rules = rules_by([(state + 15) % 16 for state in range(16)])
        found = looks(set_up(rules, 3))
        self.assertEqual(found[0], [0, 16, 3, 2, 1, 0] + list(range(15, 3, -1)))
        self.assertEqual(found[1:], [[1, 0, 16], [1, 4], [0], [16]])

    def test_four_towers_on_one_way(self):
        rules = rules_by([min(state + 1, 15) for state in range(16)])
        self.assertEqual(looks(set_up(rules, 0)), [[15, 1, 15], [1, 15, 1], [0], [1, 0], [16]])
        self.assertEqual(looks(set_up(rules, 15))[2], [2, 14, 15])

    def test_four_towers_all_at_rest(self):
        found = looks(set_up(rules_by(list(range(16))), 9))
        rounds = [part for state in range(16) for part in (state, 1)]
        self.assertEqual(found, [[0, 1, 9], [16] + rounds, [1, 9], [0], [1]])

    def test_held_by_the_flag_as_it_is(self):
        # Each against itself: 0 <> 3, 1 <> 2. With the second held, its other flag never comes.
        rules = rules_by([3, 2, 1, 0])
        self.assertEqual(looks(set_up(rules, 0, 2)), [[0, 2, 0, 1], [1, 0, 2], [2, 1, 3], [2, 2, 3], [4]])
        self.assertEqual(looks(set_up(rules, 2, 2)), [[0, 2, 2, 3], [1, 2, 2], [2, 1, 3], [2, 0, 1], [4]])

    def test_held_flag_put_by_hand(self):
        calls = set_up(rules_by([3, 2, 1, 0]), 0, 2) + [("flag", 1, 1)]
        self.assertEqual(looks(calls), [[0, 2, 2, 3], [1, 2, 2], [2, 1, 3], [2, 0, 1], [4]])

    def test_they_change_nothing(self):
        calls = set_up(rules_by([5, 4, 3, 6, 4, 7, 2, 3]), 7, 1)
        kept = [("seen",), ("rule_of", 0), ("rule_of", 1), ("rule_of", 2)]
        found = ask(*calls, *kept, *LOOKS, *kept, *LOOKS)[len(calls):]
        self.assertEqual(found[:9], found[9:])
