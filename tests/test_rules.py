"""Point 2: rules, flags by hand, held towers, the order."""

import unittest
from itertools import permutations, product

from tests.helper import GREATEST, ask, last, set_up

TOP = {1: 4, 2: 16, 3: 256, 4: 65536}


def behind(calls, *more):
    """What is answered behind these calls."""
    return ask(*calls, *more)[len(calls):]


class Rules(unittest.TestCase):
    def test_rule_answers_the_one_that_was(self):
        found = ask(("start", 2), ("rule", 0, 6), ("rule", 0, 15), ("rule", 0, 0), ("rule_of", 0), ("rule_of", 1))
        self.assertEqual(found, [[0], [10], [6], [15], [0], [12]])

    def test_rule_up_to_its_edge(self):
        for n, top in TOP.items():
            found = ask(("start", n), ("rule", 0, top - 1), ("rule", 0, top), ("rule", 0, GREATEST), ("rule_of", 0))
            self.assertEqual(found[2:], [[-22], [-22], [top - 1]])

    def test_rule_says_what_comes_of_each_state(self):
        for state in range(4):
            calls = set_up([1 << state, 15 - (1 << state)], state)
            self.assertEqual(last(*calls, ("seen",)), [state, 1])

    def test_like_and_against(self):
        found = ask(("start", 3), ("like", 0, 2), ("rule_of", 0), ("against", 0, 1), ("rule_of", 0))
        self.assertEqual(found, [[0], [170], [240], [240], [51]])
        self.assertEqual(ask(("start", 1), ("against", 0, 0), ("like", 0, 0), ("rule_of", 0)), [[0], [2], [1], [2]])
        found = ask(("start", 4), ("like", 3, 0), ("rule_of", 3), ("against", 3, 3), ("rule_of", 3))
        self.assertEqual(found, [[0], [65280], [43690], [43690], [255]])

    def test_both_and_either(self):
        found = ask(("start", 3), ("both", 2, 0, 1), ("rule_of", 2), ("either", 2, 0, 1), ("rule_of", 2))
        self.assertEqual(found, [[0], [240], [136], [136], [238]])
        found = ask(("start", 2), ("both", 0, 1, 1), ("either", 0, 0, 0), ("rule_of", 0))
        self.assertEqual(found, [[0], [10], [12], [10]])
        found = ask(("start", 4), ("both", 0, 3, 2), ("either", 0, 3, 2), ("rule_of", 0))
        self.assertEqual(found, [[0], [43690], [61440], [65520]])

    def test_always(self):
        for n, top in TOP.items():
            found = ask(("start", n), ("always", 0, 1), ("always", 0, 0), ("rule_of", 0))
            self.assertEqual(found[2:], [[top - 1], [0]])

    def test_no_such_tower(self):
        for n in (1, 2, 3, 4):
            for wrong in (n, n + 1, GREATEST):
                calls = [
                    ("rule", wrong, 0), ("like", wrong, 0), ("like", 0, wrong), ("against", wrong, 0),
                    ("against", 0, wrong), ("both", wrong, 0, 0), ("both", 0, wrong, 0), ("both", 0, 0, wrong),
                    ("either", wrong, 0, 0), ("either", 0, wrong, 0), ("either", 0, 0, wrong),
                    ("always", wrong, 0), ("flag", wrong, 1), ("hold", wrong), ("free", wrong), ("rule_of", wrong),
                ]
                begun = [("start", n), ("hold", 0), ("rule_of", 0), ("seen",)]
                found = ask(*begun, *calls, *begun[2:])
                self.assertEqual(found[4:-2], [[-2]] * len(calls))
                self.assertEqual(found[-2:], found[2:4])

    def test_no_such_tower_is_told_ahead_of_all_else(self):
        calls = [("rule", 2, GREATEST), ("always", 2, 2), ("flag", 2, 2), ("flag", 2, 0), ("flag", GREATEST, GREATEST)]
        self.assertEqual(behind([("start", 2)], *calls), [[-2]] * 5)

    def test_wrong_v(self):
        for wrong in (2, 3, GREATEST):
            found = behind([("start", 2)], ("always", 0, wrong), ("flag", 0, wrong), ("rule_of", 0), ("seen",))
            self.assertEqual(found, [[-22], [-22], [10], [0, 0]])

    def test_rule_told_while_held(self):
        calls = [
            ("start", 2), ("hold", 0), ("always", 0, 1), ("rule_of", 0), ("seen",), ("step", 3), ("rule", 0, 5),
            ("rule_of", 0), ("act", 0), ("free", 0), ("rule_of", 0), ("seen",), ("step", 1), ("step", 1),
        ]
        found = [[0], [1], [10], [15], [0, 0], [0], [15], [5], [0], [0], [5], [0, 1], [1], [0]]
        self.assertEqual(ask(*calls), found)


class ByHand(unittest.TestCase):
    def test_flag_answers_how_many_are_up(self):
        calls = [("flag", 2, 1), ("flag", 0, 1), ("flag", 3, 1), ("seen",), ("flag", 2, 0), ("seen",)]
        self.assertEqual(behind([("start", 4)], *calls), [[1], [2], [3], [13, 13], [2], [9, 9]])

    def test_flag_is_so(self):
        found = behind([("start", 1)], ("flag", 0, 0), ("flag", 0, 1), ("flag", 0, 1), ("flag", 0, 0), ("seen",))
        self.assertEqual(found, [[-17], [1], [-17], [0], [0, 0]])

    def test_held_flag_is_put_by_hand_and_stays_so(self):
        calls = [
            ("start", 2), ("always", 0, 0), ("hold", 0), ("flag", 0, 1), ("seen",), ("step", 5), ("pass_on", 2),
            ("act", 0), ("settle", 9), ("flag", 0, 0), ("always", 0, 1), ("step", 1), ("free", 0), ("step", 1),
        ]
        found = [[0], [10], [1], [1], [1, 1], [1], [1], [1], [0, 1], [0], [0], [0], [0], [1]]
        self.assertEqual(ask(*calls), found)


class Held(unittest.TestCase):
    def test_hold_and_free_answer_how_many_are_held(self):
        calls = [("hold", 1), ("hold", 3), ("hold", 0), ("free", 3), ("hold", 2), ("free", 0), ("free", 1), ("free", 2)]
        self.assertEqual(behind([("start", 4)], *calls), [[1], [2], [3], [2], [3], [2], [1], [0]])

    def test_held_or_free_already(self):
        found = behind([("start", 1)], ("free", 0), ("hold", 0), ("hold", 0), ("free", 0), ("free", 0))
        self.assertEqual(found, [[-17], [1], [-17], [0], [-17]])

    def test_all_held_nothing_moves(self):
        for n in (1, 2, 3, 4):
            against = [("against", j, j) for j in range(n)]
            hold = [("hold", j) for j in range(n)]
            calls = [("start", n), *against, ("flag", n - 1, 1), *hold]
            state = 1 << (n - 1)
            found = behind(
                calls, ("step", 1), ("pass_on", 1), ("act", 0), ("settle", 100), ("seen",), ("round_of",), ("rounds",),
                ("basin",), ("kinds",), ("even",),
            )
            self.assertEqual(found[:5], [[state], [state], [state], [0, state], [state, state]])
            self.assertEqual(found[5:8], [[0, 1, state], [1, state, 1], [1 << n]])
            self.assertEqual(found[8:], [[0] * (n * n + 1), [-33]])


class Order(unittest.TestCase):
    def test_every_order_is_taken_and_passed_in(self):
        # Each tower is up just if no flag is, so the first in order alone comes up.
        for n in (1, 2, 3, 4):
            for towers in permutations(range(n)):
                calls = [("start", n), *[("rule", j, 1) for j in range(n)], ("order", *towers), ("pass_on", 1)]
                self.assertEqual(ask(*calls)[-2], [0])
                self.assertEqual(last(*calls), [1 << towers[0]])

    def test_order_is_walked_one_behind_another(self):
        calls = [("start", 3), ("like", 1, 0), ("like", 2, 1), ("flag", 0, 1)]
        want = {(0, 1, 2): 7, (0, 2, 1): 3, (1, 0, 2): 7, (1, 2, 0): 7, (2, 0, 1): 3, (2, 1, 0): 3}
        for towers, state in want.items():
            self.assertEqual(last(*calls, ("order", *towers), ("pass_on", 1)), [state])

    def test_any_other_list_is_refused(self):
        wrong = [(), (0,), (0, 0), (0, 2), (1, 1), (0, 1, 2), (0, 1, 0), (GREATEST, 0), (0, 1) * 4, (7,) * 8]
        for towers in wrong:
            acts = [("like", 0, 1), ("like", 1, 0), ("flag", 1, 1), ("pass_on", 1)]
            found = ask(("start", 2), ("order", *towers), *acts)
            self.assertEqual(found[1], [-22])
            self.assertEqual(found[-1], [3])

    def test_all_short_lists(self):
        for n in (1, 2, 3):
            for size in range(5):
                for towers in product(range(4), repeat=size):
                    want = [0] if towers in permutations(range(n)) else [-22]
                    self.assertEqual(last(("start", n), ("order", *towers)), want)

    def test_refused_leaves_the_order_that_was_told(self):
        calls = [("start", 3), ("like", 1, 0), ("like", 0, 2), ("flag", 2, 1), ("order", 1, 0, 2)]
        self.assertEqual(last(*calls, ("order", 0, 1), ("order", 2, 1, 3), ("order",), ("pass_on", 1)), [5])
        self.assertEqual(last(*calls, ("order", 0, 1, 2), ("pass_on", 1)), [7])
