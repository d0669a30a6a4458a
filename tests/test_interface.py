"""The interface: one list in, one list out, nothing changed and nothing kept."""

import unittest

from tests.helper import GREATEST, ask, flat, split
from watchtowers.towers import answers


class Interface(unittest.TestCase):
    def test_each_call_by_its_number(self):
        calls = [0, 2, 1, 1, 6, 7, 0, 1, 15, 1, 16]
        self.assertEqual(answers(calls), [1, 0, 1, 12, 1, 1, 1, 6, 2, 1, 3])
        found = answers([0, 1, 22, 23, 17, 18, 19, 20, 21, 13, 0, 14, 0, 11, 1, 12, 1])
        want = [[0], [1, 1], [1, 0], [0, 1, 0], [2, 0, 1, 1, 1], [1, 0], [0], [1], [0], [0, 0], [0], [0]]
        self.assertEqual(split(found), want)
        found = answers([0, 2, 2, 0, 1, 3, 0, 1, 4, 0, 0, 1, 5, 0, 0, 1, 6, 0, 1, 15, 0, 8, 0, 9, 0])
        self.assertEqual(split(found), [[0], [10], [12], [3], [8], [14], [15], [1], [0]])

    def test_an_order_has_its_size_ahead(self):
        found = answers([0, 3, 10, 3, 2, 0, 1, 10, 0, 10, 8, 0, 1, 2, 3, 4, 5, 6, 7, 10, 1, 10, 16])
        self.assertEqual(found, [1, 0, 1, 0, 1, -22, 1, -22, 1, -22, 2, 0, 0])

    def test_a_size_stands_before_each_answer(self):
        self.assertEqual(answers([0, 5, 0, 2, 16, 13, 2, 19]), [1, -22, 1, 0, 2, 0, 0, 1, -2, 2, 1, 0])

    def test_what_is_handed_in_is_as_it_was(self):
        calls = flat([("start", 3), ("order", 2, 1, 0), ("rule", 0, 15), ("step", 3), ("order", 0, 0), ("kinds",)])
        kept = list(calls)
        answers(calls)
        self.assertEqual(calls, kept)

    def test_a_second_time_answers_the_same(self):
        calls = flat([
            ("start", 4), ("against", 0, 3), ("like", 1, 0), ("hold", 2), ("flag", 3, 1), ("order", 3, 2, 1, 0),
            ("pass_on", 7), ("settle", 9), ("rounds",), ("basin",), ("even",), ("rule_of", 1), ("seen",),
        ])
        first = answers(calls)
        answers(flat([("start", 2), ("always", 0, 1), ("hold", 1), ("order", 1, 0), ("step", 1)]))
        self.assertEqual(answers(calls), first)

    def test_what_is_given_back_is_no_shared_list(self):
        calls = flat([("start", 2), ("kinds",), ("rounds",)])
        first = answers(calls)
        kept = list(first)
        first.clear()
        self.assertEqual(answers(calls), kept)

    def test_whole_numbers_alone(self):
        calls = flat([
            ("start", 3), ("against", 0, 2), ("flag", 1, 1), ("hold", 0), ("free", 0), ("step", 1), ("settle", 5),
            ("seen",), ("round_of",), ("rounds",), ("before",), ("gardens",), ("basin",), ("kinds",), ("even",),
        ])
        found = answers(calls)
        self.assertIs(type(found), list)
        self.assertEqual({type(part) for part in found}, {int})

    def test_the_longest_lists(self):
        found = ask(("start", 4), *[("order", 3, 2, 1, 0, 3, 2, 1, 0)] * 149)
        self.assertEqual(found, [[0]] + [[-22]] * 149)
        found = ask(("start", 4), ("against", 0, 0), *[("step", 99)] * 148)
        self.assertEqual(found[2:], [[1], [0]] * 74)

    def test_greatest_numbers_everywhere(self):
        top = GREATEST
        calls = [
            ("start", top), ("rule", top, top), ("rule", 0, top), ("like", top, top), ("against", top, top),
            ("both", top, top, top), ("either", top, top, top), ("always", top, top), ("flag", top, top),
            ("hold", top), ("free", top), ("order", *[top] * 8), ("step", top), ("pass_on", top), ("act", top),
            ("settle", top), ("rule_of", top),
        ]
        want = [-22, -2, -22, -2, -2, -2, -2, -2, -2, -2, -2, -22, -22, -22, -2, -22, -2]
        for n in (1, 2, 3, 4):
            found = ask(("start", n), ("kinds",), ("seen",), *calls, ("kinds",), ("seen",))
            self.assertEqual(found[3:-2], [[number] for number in want])
            self.assertEqual(found[-2:], found[1:3])
