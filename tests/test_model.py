"""Lists of calls of all kinds against the second telling of the document in helper.py."""

import random
import unittest
from itertools import product

from tests.helper import GREATEST, LOOKS, Model, all_looks, ask, flat, set_up, some_rules
from watchtowers.towers import answers

TOWERS = {"like": 2, "against": 2, "both": 3, "either": 3, "hold": 1, "free": 1, "act": 1, "rule_of": 1}
STATES = {"far": 1, "comes": 2, "join": 2, "meet": 2}
COMMON = (
    "rule rule rule like against against both both either either always flag flag flag hold free order step pass_on "
    "act settle rule_of back back again again far comes comes join join meet meet"
).split()


def some_number(source):
    return source.choice([0, 1, 2, 3, 4, 5, 15, 16, 100, 101, GREATEST, source.randrange(GREATEST + 1)])


def some_tower(source, n):
    return source.randrange(n) if source.random() < 0.95 else some_number(source)


def some_order(source, n):
    towers = source.sample(range(n), n)
    if source.random() < 0.3:
        towers = [some_number(source) for _ in range(source.randrange(9))]
    return towers


def some_state(source, n):
    return source.randrange(1 << n) if source.random() < 0.95 else some_number(source)


def some_call(source, n):
    name = source.choice(COMMON)
    if name in ("back", "again"):
        return (name,)
    if name in TOWERS:
        return (name, *[some_tower(source, n) for _ in range(TOWERS[name])])
    if name == "comes" and source.random() < 0.9:
        h = some_state(source, n)
        return (name, h, h & source.randrange(1 << n))
    if name in STATES:
        return (name, *[some_state(source, n) for _ in range(STATES[name])])
    if name == "order":
        return (name, *some_order(source, n))
    if name == "rule":
        rule = source.randrange(1 << (1 << n)) if source.random() < 0.9 else (1 << (1 << n)) - source.randrange(2)
        return (name, some_tower(source, n), rule)
    if name in ("always", "flag"):
        v = source.randrange(2) if source.random() < 0.9 else some_number(source)
        return (name, some_tower(source, n), v)
    return (name, source.randrange(12) if source.random() < 0.8 else some_number(source))


def some_calls(source, n):
    calls = [("start", source.choice([0, 5, GREATEST]))] * source.randrange(3) + [("start", n)]
    while len(calls) < 150:
        chance = source.random()
        if chance < 0.005:
            n = source.choice([1, 2, 3, 4])
            calls.append(("start", n))
        elif chance < 0.015:
            # Many taken back and done again at once, so that both ends are met.
            calls += [("back",)] * source.randrange(24) + [("again",)] * source.randrange(24)
        else:
            calls.append(some_call(source, n) if chance < 0.65 else source.choice(LOOKS))
    return calls[:150]


class AgainstTheModel(unittest.TestCase):
    def compare(self, calls):
        model = Model()
        found = ask(*calls)
        self.assertEqual(len(found), len(calls))
        for place, call in enumerate(calls):
            self.assertEqual(found[place], model.call(*call), (place, calls[:place + 1]))

    def test_long_lists(self):
        for n in (1, 2, 3, 4):
            for seed in range(30):
                with self.subTest(n=n, seed=seed):
                    self.compare(some_calls(random.Random(1000 * n + seed), n))

    def test_long_lists_a_second_time(self):
        lists = [flat(some_calls(random.Random(seed), 1 + seed % 4)) for seed in range(40)]
        kept = [list(calls) for calls in lists]
        first = [answers(calls) for calls in lists]
        self.assertEqual(lists, kept)
        self.assertEqual([answers(calls) for calls in reversed(lists)], first[::-1])
        self.assertEqual(lists, kept)

    def test_every_rule_of_one_tower(self):
        for rule, v, held in product(range(4), (0, 1), (0, 1)):
            acts = [("act", 0), ("step", 1), ("pass_on", 1), ("settle", 0), ("settle", 7), ("back",), ("again",)]
            for act in acts:
                self.compare(set_up([rule], v, held) + [act] + all_looks(1))

    def test_every_two_rules_with_all_held_sets(self):
        source = random.Random(2)
        for rules in product(range(16), repeat=2):
            for held in range(4):
                self.compare(set_up(rules, source.randrange(4), held) + all_looks(2))

    def test_three_and_four_towers(self):
        source = random.Random(34)
        for rules in some_rules(34, 45):
            n = len(rules)
            for held in (0, source.randrange(1 << n)):
                begun = set_up(rules, source.randrange(1 << n), held)
                self.compare(begun + [("order", *source.sample(range(n), n))] + LOOKS)
                self.compare(begun + source.sample(all_looks(n), 90))
