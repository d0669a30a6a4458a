"""The interface: one list in, one list out, nothing changed and nothing kept."""

import unittest

from tests.helper import GREATEST, LOOKS, NUMBERS, all_looks, ask, flat, split
from watchtowers.towers import answers


class Interface(unittest.TestCase):
    def test_each_call_by_its_number(self):
        calls = [0, 2, 1, 1, 6, 7, 0, 1, 15, 1, 16]
        self.assertEqual(answers(calls), [1, 0, 1, 12, 1, 1, 1, 6, 2, 1, 3])
        found = answers([0, 1, 22, 23, 17, 18, 19, 20, 21, 13, 0, 14, 0, 11, 1, 12, 1])
        want = [[0], [1, 1], [1, 0], [0, 1, 0], [2, 0, 1, 1, 1], [1, 0], [0], [1], [0], [0, 0], [0], [0]]
        self.assertEqual(split(found), want)
        found = answers([0, 2, 2, 0, 1, 3, 0, 1, 4, 0, 0, 1, 5, 0, 0, 1, 6, 0, 1, 15, 0, 8, 0, 9, 0])
        self.assertEqual(split(found), [[0], [10], [12], [3], [8], [14], [15], [1], [0]])

    def test_each_of_the_later_calls_by_its_number(self):
        # Each of two against the other, 0 up: all that asks, then what changes back.
        begun = [0, 2, 3, 0, 1, 3, 1, 0, 7, 0, 1]
        calls = [24, 25, 26, 27, 28, 29, 30, 31, 32, 2, 33, 34, 35, 36, 37, 38, 1, 0, 39, 40, 41, 42, 0, 0, 43, 0, 0]
        want = [
            [-33], [-33], [2, 1, 2], [0, 1], [2, 0, 1], [1, 1], [0], [1, 1], [-33], [2, 1, 1, 2, 1], [2], [1, 1],
            [1, 1], [1, 1], [2], [0], [-16], [-16], [-16], [-16],
        ]
        self.assertEqual(split(answers(begun + calls))[4:], want)
        calls = [44, 45, 45, 44, 44, 44, 44, 46, 47, 39, 40, 41, 42, 1, 2, 43, 1, 2, 25, 11, 3, 46]
        want = [
            [2], [0], [-6], [2], [1], [0], [-6], [0, 0, 0, 0], [2, 0, 0, 0, 3, 0, 1], [1], [0, 0], [3, 0], [3], [0],
            [-33], [0], [3, 0, 0, 0],
        ]
        self.assertEqual(split(answers(begun + calls))[4:], want)

    def test_how_many_numbers_are_answered(self):
        for n in (1, 2, 3, 4):
            for begun in ([], [("always", j, 1) for j in range(n)], [("against", j, 0) for j in range(n)]):
                found = ask(("start", n), *begun, *LOOKS)[len(begun) + 1:]
                for (name,), answer in zip(LOOKS, found):
                    more = len(answer) - 1
                    if answer[0] < 0:
                        self.assertEqual(more, 0, name)
                    elif name in ("seen", "sweeps", "cut", "cut_even", "fewest", "least", "greatest"):
                        self.assertEqual(more, 1, name)
                    elif name in ("before", "gardens", "even", "odd", "rests", "brings", "moves", "reach"):
                        self.assertEqual(more, answer[0], name)
                    elif name in ("rounds", "traps"):
                        self.assertEqual(more, 2 * answer[0], name)
                    else:
                        wants = {"kinds": n * n, "layers": n, "best": n, "sums": 3, "state": 4 + n}
                        want = answer[1] + 1 if name == "round_of" else wants.get(name, 0)
                        self.assertEqual(more, want, name)

    def test_an_order_has_its_size_ahead(self):
        found = answers([0, 3, 10, 3, 2, 0, 1, 10, 0, 10, 8, 0, 1, 2, 3, 4, 5, 6, 7, 10, 1, 10, 16])
        self.assertEqual(found, [1, 0, 1, 0, 1, -22, 1, -22, 1, -22, 2, 0, 0])

    def test_a_size_stands_before_each_answer(self):
        self.assertEqual(answers([0, 5, 0, 2, 16, 13, 2, 19]), [1, -22, 1, 0, 2, 0, 0, 1, -2, 2, 1, 0])

    def test_what_is_handed_in_is_as_it_was(self):
        begun = [("start", 3), ("order", 2, 1, 0), ("rule", 0, 15), ("step", 3), ("order", 0, 0), ("back",), ("again",)]
        for part in (all_looks(3)[:96], all_looks(3)[96:]):
            calls = flat(begun + part)
            kept = list(calls)
            answers(calls)
            self.assertEqual(calls, kept)

    def test_a_second_time_answers_the_same(self):
        calls = flat([
            ("start", 4), ("against", 0, 3), ("like", 1, 0), ("hold", 2), ("flag", 3, 1), ("order", 3, 2, 1, 0),
            ("pass_on", 7), ("settle", 9), ("back",), ("back",), ("again",), ("rule_of", 1), *LOOKS, ("far", 3),
            ("comes", 3, 1), ("join", 0, 0), ("meet", 15, 15), ("back",), ("state",), ("again",), ("state",),
        ])
        first = answers(calls)
        answers(flat([("start", 2), ("always", 0, 1), ("hold", 1), ("order", 1, 0), ("step", 1)]))
        self.assertEqual(answers(calls), first)

    def test_what_is_given_back_is_no_shared_list(self):
        calls = flat([("start", 2), ("kinds",), ("rounds",)])
        first = answers(calls)
        kept = list(first)
        first.clear()
        self.assertEqual(answers(calls), kept)

    def test_whole_numbers_alone(self):
        begun = [
            ("start", 3), ("flag", 1, 1), ("hold", 0), ("free", 0), ("step", 1), ("settle", 5), ("back",), ("again",),
        ]
        for more in ([], [("against", 0, 2)], [("always", 0, 1), ("like", 1, 0), ("both", 2, 1, 0)]):
            for part in (all_looks(3)[:96], all_looks(3)[96:]):
                found = answers(flat(begun + more + part))
                self.assertIs(type(found), list)
                self.assertEqual({type(number) for number in found}, {int})

    def test_the_longest_lists(self):
        found = ask(("start", 4), *[("order", 3, 2, 1, 0, 3, 2, 1, 0)] * 149)
        self.assertEqual(found, [[0]] + [[-22]] * 149)
        found = ask(("start", 4), ("against", 0, 0), *[("step", 99)] * 148)
        self.assertEqual(found[2:], [[1], [0]] * 74)
        for look in LOOKS:
            found = ask(("start", 4), *[("against", j, 3 - j) for j in range(4)], *[look] * 145)
            self.assertEqual(found[5:], [found[5]] * 145)

    def test_there_are_48_calls(self):
        self.assertEqual(sorted(NUMBERS.values()), list(range(48)))
        self.assertEqual(NUMBERS["state"], 47)

    def test_greatest_numbers_everywhere(self):
        top = GREATEST
        calls = [
            ("start", top), ("rule", top, top), ("rule", 0, top), ("like", top, top), ("against", top, top),
            ("both", top, top, top), ("either", top, top, top), ("always", top, top), ("flag", top, top),
            ("hold", top), ("free", top), ("order", *[top] * 8), ("step", top), ("pass_on", top), ("act", top),
            ("settle", top), ("rule_of", top), ("far", top), ("comes", top, top), ("comes", 0, top), ("comes", top, 0),
            ("join", top, top), ("join", 0, top), ("meet", top, top), ("meet", top, 0),
        ]
        want = [-22, -2, -22, -2, -2, -2, -2, -2, -2, -2, -2, -22, -22, -22, -2, -22, -2] + [-22] * 8
        for n in (1, 2, 3, 4):
            found = ask(("start", n), ("kinds",), ("seen",), *calls, ("kinds",), ("seen",))
            self.assertEqual(found[3:-2], [[number] for number in want])
            self.assertEqual(found[-2:], found[1:3])
