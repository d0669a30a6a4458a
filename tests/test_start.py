"""Point 1: start, and what is there at first."""

import unittest

from tests.helper import GREATEST, ask, last


class Start(unittest.TestCase):
    def test_one_to_four_towers(self):
        for n in (1, 2, 3, 4):
            self.assertEqual(ask(("start", n)), [[0]])

    def test_any_other_number_is_refused(self):
        for n in (0, 5, 6, 16, 100, GREATEST):
            self.assertEqual(ask(("start", n)), [[-22]])

    def test_refused_ahead_of_the_first_that_answers_0(self):
        found = ask(("start", 0), ("start", GREATEST), ("start", 5), ("start", 2), ("seen",), ("rule_of", 1))
        self.assertEqual(found, [[-22], [-22], [-22], [0], [0, 0], [12]])

    def test_at_first_flags_are_down_and_stay(self):
        stay = {1: [2], 2: [10, 12], 3: [170, 204, 240], 4: [43690, 52428, 61680, 65280]}
        for n, rules in stay.items():
            found = ask(("start", n), ("seen",), *[("rule_of", j) for j in range(n)])
            self.assertEqual(found[1:], [[0, 0]] + [[r] for r in rules])

    def test_at_first_nobody_is_held(self):
        for n in (1, 2, 3, 4):
            self.assertEqual(ask(("start", n), *[("free", j) for j in range(n)])[1:], [[-17]] * n)
            self.assertEqual(last(("start", n), ("hold", n - 1)), [1])

    def test_at_first_the_order_is_rising(self):
        # Each is as the one before it, so one rising pass carries the flag through.
        calls = [("start", 4), ("like", 1, 0), ("like", 2, 1), ("like", 3, 2), ("flag", 0, 1), ("pass_on", 1)]
        self.assertEqual(last(*calls), [15])

    def test_again_all_is_as_at_first(self):
        calls = [
            ("start", 3), ("always", 0, 1), ("flag", 1, 1), ("hold", 2), ("order", 2, 1, 0), ("step", 1),
            ("start", 3), ("rule_of", 0), ("seen",), ("free", 2),
            ("like", 1, 0), ("like", 2, 1), ("flag", 0, 1), ("pass_on", 1),
        ]
        found = ask(*calls)
        self.assertEqual(found[6:], [[0], [170], [0, 0], [-17], [204], [240], [1], [7]])

    def test_again_with_another_number(self):
        found = ask(("start", 4), ("flag", 3, 1), ("start", 1), ("flag", 1, 1), ("seen",), ("start", 2), ("flag", 1, 1))
        self.assertEqual(found[2:], [[0], [-2], [0, 0], [0], [1]])

    def test_refused_again_changes_nothing(self):
        calls = [
            ("start", 2), ("always", 0, 1), ("flag", 1, 1), ("hold", 1), ("start", 0), ("start", 5),
            ("start", GREATEST), ("seen",), ("rule_of", 0), ("hold", 1), ("rule_of", 2),
        ]
        self.assertEqual(ask(*calls)[4:], [[-22], [-22], [-22], [2, 3], [15], [-17], [-2]])
