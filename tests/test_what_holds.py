"""Point 11: what holds of the acts, by the program's own answers."""

import random
import unittest
from itertools import combinations, permutations, product

from tests.helper import Model, ask, last, set_up


def some_rules():
    """All rules of one and two towers, and some of three and four."""
    for n in (1, 2):
        yield from product(range(1 << (1 << n)), repeat=n)
    source = random.Random(11)
    for n in (3, 4):
        for _ in range(60):
            yield tuple(plain_rule(source, n) for _ in range(n))


def plain_rule(source, n):
    """A rule that looks at few towers, so that rings are neither always nor never there."""
    looked = source.sample(range(n), source.randrange(3))
    says = {flags: source.random() < 0.5 for flags in product((0, 1), repeat=len(looked))}
    return sum(1 << s for s in range(1 << n) if says[tuple((s >> i) & 1 for i in looked)])


def model_of(rules, state=0, held=0):
    model = Model()
    for call in set_up(rules, state, held):
        model.call(*call)
    return model


def layers(model):
    """How many layers there are; there must be no ring."""
    layer = {}
    while len(layer) < model.n:
        for j in range(model.n):
            watched = [i for i in range(model.n) if model.kind(j, i)]
            if all(i in layer for i in watched):
                layer[j] = max([layer[i] + 1 for i in watched], default=0)
    return max(layer.values()) + 1


def answer_from_each(rules, call):
    """What the call answers in each state."""
    return [last(*set_up(rules, state), call) for state in range(1 << len(rules))]


def act_table(rules):
    """By state and tower: the state behind that tower's act."""
    columns = [answer_from_each(rules, ("act", j)) for j in range(len(rules))]
    return [[column[state][0] for column in columns] for state in range(1 << len(rules))]


def reached(table, state):
    found, left = {state}, [state]
    while left:
        for other in table[left.pop()]:
            if other not in found:
                found.add(other)
                left.append(other)
    return found


class WhatHolds(unittest.TestCase):
    def test_without_a_ring_all_come_to_the_one_state_at_rest(self):
        checked = 0
        for rules in some_rules():
            model = model_of(rules)
            if model.rings():
                continue
            n, depth = len(rules), layers(model)
            ends = {last(*set_up(rules), ("step", depth))[0]}
            for state in range(1 << n):
                begun = set_up(rules, state)
                ends.add(last(*begun, ("step", depth))[0])
                for order in permutations(range(n)):
                    ends.add(last(*begun, ("order", *order), ("pass_on", depth))[0])
            self.assertEqual(len(ends), 1, rules)
            end = ends.pop()
            self.assertEqual(last(*set_up(rules, end), ("seen",)), [end, end])
            checked += n > 2
        self.assertGreater(checked, 5)

    def test_without_an_odd_ring_acts_may_bring_rest(self):
        checked = 0
        for rules in some_rules():
            if any(1 in parities for _, parities in model_of(rules).rings()):
                continue
            table = act_table(rules)
            rests = {s for s, row in enumerate(table) if set(row) == {s}}
            for state in range(len(table)):
                self.assertTrue(reached(table, state) & rests, (rules, state))
            checked += len(rules) > 2
        self.assertGreater(checked, 5)

    def test_at_rest_nothing_changes(self):
        for rules in some_rules():
            n = len(rules)
            seen = answer_from_each(rules, ("seen",))
            for state in [state for state, comes in seen if state == comes]:
                begun = set_up(rules, state)
                acts = [("act", j) for j in range(n)] + [("step", 3), ("pass_on", 2)]
                found = ask(*begun, *acts, ("settle", 5))[len(begun):]
                self.assertEqual(found, [[state]] * len(acts) + [[0, state]])

    def test_with_one_held_in_each_ring_all_come_to_rest(self):
        for rules in some_rules():
            n = len(rules)
            rings = [set(ring) for ring, _ in model_of(rules).rings()]
            held = min(
                (towers for size in range(n + 1) for towers in combinations(range(n), size)
                 if all(ring & set(towers) for ring in rings)),
                key=len,
            )
            holds = sum(1 << j for j in held)
            ends = {}
            for state in range(1 << n):
                end = last(*set_up(rules, state, holds), ("step", n))[0]
                self.assertEqual(last(*set_up(rules, end, holds), ("seen",)), [end, end])
                self.assertEqual(ends.setdefault(state & holds, end), end)

    def test_if_rules_rise_acts_from_none_up_come_to_the_least(self):
        source, checked = random.Random(5), 0
        for rules in some_rules():
            n = len(rules)
            seen = [comes for _, comes in answer_from_each(rules, ("seen",))]
            pairs = [(s, t) for s in range(1 << n) for t in range(1 << n) if s & t == s]
            if any(seen[s] & seen[t] != seen[s] for s, t in pairs):
                continue
            rests = [s for s in range(1 << n) if seen[s] == s]
            least = [s for s in rests if all(s & t == s for t in rests)][0]
            acts = [("act", source.randrange(n)) for _ in range(40)]
            for state, in ask(*set_up(rules), *acts)[n + 1:]:
                self.assertEqual(state & least, state)
                self.assertTrue(seen[state] != state or state == least)
            self.assertEqual(last(*set_up(rules), ("settle", 100))[1], least)
            checked += n > 2
        self.assertGreater(checked, 3)

    def test_out_of_a_trap_no_act_leads(self):
        for rules in some_rules():
            table = act_table(rules)
            for state in range(len(table)):
                here = reached(table, state)
                if any(reached(table, other) != here for other in here):
                    continue
                for call in (("pass_on", 1), ("pass_on", 3), ("settle", 1), ("settle", 7)):
                    self.assertIn(last(*set_up(rules, state), call)[-1], here)
