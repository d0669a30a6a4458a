"""Long lists of calls against the second telling of the document in helper.py."""

import random
import unittest

from tests.helper import GREATEST, Model, ask

LOOKS = [("seen",), ("round_of",), ("rounds",), ("before",), ("gardens",), ("basin",), ("kinds",), ("even",)]
SIZES = {"like": 2, "against": 2, "both": 3, "either": 3, "hold": 1, "free": 1, "act": 1, "rule_of": 1}


def some_number(source):
    return source.choice([0, 1, 2, 3, 4, 5, 100, 101, GREATEST, source.randrange(GREATEST + 1)])


def some_tower(source, n):
    return source.randrange(n) if source.random() < 0.9 else some_number(source)


def some_order(source, n):
    towers = list(range(n))
    source.shuffle(towers)
    if source.random() < 0.3:
        towers = [some_number(source) for _ in range(source.randrange(9))]
    return towers


def some_call(source, n):
    name = source.choice([
        "rule", "rule", "rule", "like", "against", "both", "either", "always", "flag", "flag", "flag", "hold", "free",
        "order", "step", "pass_on", "act", "settle", "rule_of",
    ])
    if name in SIZES:
        return (name, *[some_tower(source, n) for _ in range(SIZES[name])])
    if name == "order":
        return (name, *some_order(source, n))
    if name == "rule":
        rule = source.randrange(1 << (1 << n)) if source.random() < 0.9 else (1 << (1 << n)) - source.randrange(2)
        return (name, some_tower(source, n), rule)
    if name in ("always", "flag"):
        v = source.randrange(2) if source.random() < 0.9 else some_number(source)
        return (name, some_tower(source, n), v)
    return (name, source.randrange(12) if source.random() < 0.8 else some_number(source))


def some_calls(source, n):
    calls = [("start", source.choice([0, 5, GREATEST]))] * source.randrange(3) + [("start", n)]
    while len(calls) < 150:
        calls.append(some_call(source, n) if source.random() < 0.7 else source.choice(LOOKS))
        if source.random() < 0.005 and len(calls) < 150:
            n = source.choice([1, 2, 3, 4])
            calls.append(("start", n))
    return calls


class AgainstTheModel(unittest.TestCase):
    def compare(self, calls):
        model = Model()
        found = ask(*calls)
        self.assertEqual(len(found), len(calls))
        for place, call in enumerate(calls):
            self.assertEqual(found[place], model.call(*call), (place, calls[:place + 1]))

    def test_long_lists(self):
        for n in (1, 2, 3, 4):
            for seed in range(25):
                with self.subTest(n=n, seed=seed):
                    self.compare(some_calls(random.Random(1000 * n + seed), n))

    def test_every_rule_of_one_tower(self):
        for rule in range(4):
            for v in (0, 1):
                for held in (False, True):
                    calls = [("start", 1), ("rule", 0, rule)] + [("flag", 0, 1)] * v + [("hold", 0)] * held
                    acts = [("act", 0), ("step", 1), ("pass_on", 1), ("settle", 0), ("settle", 7)]
                    self.compare(calls + [call for one in acts for call in [one] + LOOKS])
