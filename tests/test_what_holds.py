"""Point 11: what holds of the acts, by the program's own answers."""

import random
import unittest
from itertools import permutations, product

from tests.helper import ask, last, set_up, some_rules


def towers():
    """Rules and held ones: all of one and two towers, some of three and four."""
    for n in (1, 2):
        for rules in product(range(1 << (1 << n)), repeat=n):
            for held in range(1 << n):
                yield rules, held
    source = random.Random(11)
    for rules in some_rules(11, 48):
        yield rules, 0
        yield rules, source.randrange(1, 1 << len(rules))


def held_as(held, state, n):
    """The states in which the held flags are as in this one, so that the rules are the same."""
    return [other for other in range(1 << n) if (other ^ state) & held == 0]


def acts_in_layers(source, n, depth):
    """Each acts once for each layer, one time behind another, and some act more often."""
    acts = []
    for _ in range(depth):
        acts += source.sample(range(n), n) + [source.randrange(n) for _ in range(source.randrange(3))]
    return [("act", j) for j in acts]


class WhatHolds(unittest.TestCase):
    def setUp(self):
        self.source = random.Random(1)
        self.checked = {}

    def count(self, rules, held):
        kind = (len(rules), held > 0)
        self.checked[kind] = self.checked.get(kind, 0) + 1

    def tearDown(self):
        # Of each number of towers, with held ones and without, it was looked at.
        self.assertEqual(sorted(self.checked), sorted(product((1, 2, 3, 4), (False, True))))

    def test_without_a_ring_all_come_to_the_one_state_at_rest(self):
        for rules, held in towers():
            n = len(rules)
            begun = set_up(rules, self.source.randrange(1 << n), held)
            depth, state = last(*begun, ("layers",))[0], last(*begun, ("seen",))[0]
            if depth < 0:
                self.assertNotEqual(last(*begun, ("cut",)), [0, 0])
                continue
            self.count(rules, held)
            calls = [("rests",), ("comes", 0, 0), ("fewest",), ("cut",), ("rounds",), ("traps",)]
            found = ask(*begun, *calls)[len(begun):]
            end = found[1][0]
            self.assertEqual(found, [[1, end], [end], [0, 0], [0, 0], [1, end, 1], [1, end, 1]])
            for other in held_as(held, state, n):
                begun = set_up(rules, other, held)
                self.assertEqual(last(*begun, ("step", depth)), [end])
                for order in self.source.sample(list(permutations(range(n))), min(n, 3)):
                    self.assertEqual(last(*begun, ("order", *order), ("pass_on", depth)), [end])
                self.assertEqual(last(*begun, *acts_in_layers(self.source, n, depth)), [end])
                self.assertEqual(last(*begun, ("settle", 100))[1], end)

    def test_without_an_odd_ring_acts_may_bring_rest(self):
        for rules, held in towers():
            n = len(rules)
            state = self.source.randrange(1 << n)
            if last(*set_up(rules, state, held), ("odd",)) != [-33]:
                continue
            self.count(rules, held)
            for other in held_as(held, state, n):
                self.assertEqual(last(*set_up(rules, other, held), ("may",)), [2])

    def test_at_rest_nothing_changes(self):
        for rules, held in towers():
            n = len(rules)
            state = self.source.randrange(1 << n)
            for rest in last(*set_up(rules, state, held), ("rests",))[1:]:
                self.count(rules, held)
                begun = set_up(rules, rest, held)
                acts = [("act", j) for j in range(n)] + [("step", 3), ("pass_on", 2)]
                found = ask(*begun, *acts, ("settle", 5), ("sweeps",), ("moves",), ("reach",))[len(begun):]
                self.assertEqual(found, [[rest]] * len(acts) + [[0, rest], [0, rest], [0], [1, rest]])

    def test_with_one_held_in_each_ring_all_come_to_rest(self):
        for rules, held in towers():
            n = len(rules)
            state = self.source.randrange(1 << n)
            begun = set_up(rules, state, held)
            size, cut = last(*begun, ("cut",))
            self.count(rules, held)
            self.assertGreaterEqual(size, last(*begun, ("fewest",))[0])
            self.assertGreaterEqual(size, last(*begun, ("cut_even",))[0])
            for v in [v for v in range(1 << n) if v & cut == v]:
                end, = last(*begun, ("comes", cut, v))
                flags = (state & held) | v
                for other in held_as(held | cut, flags, n):
                    found = ask(*set_up(rules, other, held | cut), ("step", n), ("seen",), ("layers",))[-3:]
                    self.assertEqual(found[:2], [[end], [end, end]])
                    self.assertNotEqual(found[2], [-33])

    def test_if_rules_rise_acts_from_none_up_come_to_the_least(self):
        for rules, held in towers():
            n = len(rules)
            begun = set_up(rules, 0, held)
            least, steps = (last(*begun, ("least",)) + [0])[:2]
            if least < 0:
                self.assertEqual((least, last(*begun, ("rises",))), (-16, [0]))
                continue
            self.count(rules, held)
            rests = last(*begun, ("rests",))[1:]
            self.assertEqual([rest & least for rest in rests], [least] * len(rests))
            reached = last(*begun, ("reach",))[1:]
            self.assertEqual([state & least for state in reached], reached)
            self.assertEqual([state for state in reached if state in rests], [least])
            acts = [("act", self.source.randrange(n)) for _ in range(40)]
            for state, in ask(*begun, *acts)[len(begun):]:
                self.assertIn(state, reached)
            self.assertEqual(last(*begun, ("settle", 100))[1], least)
            self.assertEqual(last(*begun, ("step", n)), [least])
            self.assertLessEqual(steps, n)

    def test_out_of_a_trap_no_act_leads(self):
        for rules, held in towers():
            n = len(rules)
            state = self.source.randrange(1 << n)
            found = last(*set_up(rules, state, held), ("traps",))[1:]
            self.assertGreater(len(found), 0)
            self.count(rules, held)
            for least, size in zip(found[::2], found[1::2]):
                here = last(*set_up(rules, least, held), ("reach",))[1:]
                self.assertEqual([here[0], len(here)], [least, size])
                for other in here:
                    begun = set_up(rules, other, held)
                    acts = [("act", self.source.randrange(n)), ("pass_on", 1), ("settle", 3), ("pass_on", 2)]
                    *ends, reached = ask(*begun, *acts, ("reach",))[len(begun):]
                    self.assertEqual(reached[1:], here)
                    self.assertTrue(all(end[-1] in here for end in ends))

    def test_least_and_greatest_are_those_of_the_states_at_rest(self):
        for rules, held in towers():
            n = len(rules)
            begun = set_up(rules, self.source.randrange(1 << n), held)
            if last(*begun, ("rises",)) != [1]:
                continue
            self.count(rules, held)
            rests = last(*begun, ("rests",))[1:]
            first, second = self.source.choice(rests), self.source.choice(rests)
            calls = [("least",), ("greatest",), ("join", first, second), ("meet", first, second)]
            least, greatest, join, meet = [found[0] for found in ask(*begun, *calls)[len(begun):]]
            for rest in rests:
                self.assertEqual((rest & least, rest | greatest), (least, greatest))
                if first & rest == first and second & rest == second:
                    self.assertEqual(join & rest, join)
                if first | rest == first and second | rest == second:
                    self.assertEqual(meet | rest, meet)
            self.assertTrue({least, greatest, join, meet} <= set(rests))
            self.assertEqual((join & (first | second), meet & first & second), (first | second, meet))
