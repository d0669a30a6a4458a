"""Behind a refusal, and behind all that only asks, all is as it was."""

import unittest

from tests.helper import GREATEST, LOOKS, NUMBERS, all_looks, ask, last

# Three towers with all that can be: rules told, flags up, one held, an order, sums, changes
# to be taken back and done again. The rules rise; at rest are 2 and 7.
FULL = [
    ("start", 3), ("rule", 0, 0b10101010), ("both", 2, 0, 1), ("like", 0, 2), ("flag", 1, 1), ("hold", 1),
    ("order", 2, 0, 1), ("step", 2), ("pass_on", 3), ("act", 0), ("settle", 5), ("always", 0, 1), ("act", 0),
    ("back",), ("back",),
]
# As above, but a rule that doesn't rise.
FALLING = FULL[:-4] + [("against", 0, 2), ("settle", 1), ("step", 1), ("back",), ("back",)]
# No more to be taken back; none to be done again.
AT_FIRST = [("start", 3)]

REFUSALS = {
    -2: [
        ("rule", 3, 0), ("like", 3, 0), ("like", 0, 3), ("against", 3, 0), ("against", 0, 3), ("both", 3, 0, 0),
        ("both", 0, 3, 0), ("both", 0, 0, 3), ("either", 3, 0, 0), ("either", 0, 3, 0), ("either", 0, 0, 3),
        ("always", 3, 0), ("flag", 3, 0), ("hold", 3), ("free", 3), ("act", 3), ("rule_of", 3), ("act", GREATEST),
    ],
    -17: [("flag", 1, 1), ("flag", 0, 0), ("hold", 1), ("free", 0), ("free", 2)],
    -22: [
        ("start", 0), ("start", 5), ("start", GREATEST), ("rule", 0, 256), ("always", 0, 2), ("flag", 0, 2), ("order",),
        ("order", 0, 1), ("order", 0, 1, 3), ("order", 0, 0, 1), ("order", 0, 1, 2, 0), ("step", 0), ("step", 101),
        ("pass_on", 0), ("pass_on", 101), ("settle", 101), ("far", 8), ("far", GREATEST), ("comes", 8, 0),
        ("comes", 0, 8), ("comes", 7, 8), ("comes", 1, 2), ("comes", 0, 1), ("comes", GREATEST, GREATEST),
        ("join", 8, 0), ("join", 0, 8), ("meet", 8, 0), ("meet", 0, 8), ("meet", GREATEST, GREATEST),
    ],
}


def parts_of(calls, size):
    return [calls[place:place + size] for place in range(0, len(calls), size)]


def whole(calls):
    """All that can be asked behind these calls, and again as far back and on as one can go."""
    found = [ask(*calls, *part)[len(calls):] for part in parts_of(all_looks(3), 100)]
    walk = [call for _ in range(21) for call in (("back",), ("state",), ("sums",), ("rule_of", 0), ("kinds",))]
    found.append(ask(*calls, *walk)[len(calls):])
    walk = [call for _ in range(21) for call in (("again",), ("state",), ("sums",), ("rule_of", 0), ("kinds",))]
    found.append(ask(*calls, *walk)[len(calls):])
    return found


class NothingChanges(unittest.TestCase):
    def check(self, begun, calls, want=None):
        ahead = whole(begun)
        for call in calls:
            if want is not None:
                self.assertEqual(last(*begun, call), [want], call)
            self.assertEqual(whole(begun + [call]), ahead, call)

    def test_what_is_there(self):
        found = ask(*FULL, ("state",), ("rests",), ("rises",))[-3:]
        self.assertEqual(found, [[3, 2, 2, 10, 2, 2, 0, 1], [2, 2, 7], [1]])
        self.assertEqual(ask(*FALLING, ("rises",))[-1], [0])

    def test_refused_everywhere(self):
        for begun in (FULL, FALLING):
            for number, calls in REFUSALS.items():
                self.check(begun, calls, number)

    def test_no_change_to_take_back_or_to_do_again(self):
        self.check(AT_FIRST, [("back",), ("again",)], -6)
        self.check(AT_FIRST + [("act", 0)], [("again",)], -6)
        self.check(AT_FIRST + [("act", 0), ("back",)], [("back",)], -6)

    def test_rules_that_do_not_rise(self):
        self.check(FALLING, [("least",), ("greatest",), ("join", 0, 0), ("meet", 7, 2)], -16)

    def test_there_is_none(self):
        self.check(FULL, [("layers",), ("odd",), ("far", 0), ("comes", 0, 0), ("join", 0, 2), ("meet", 2, 3)], -33)
        self.check(FALLING, [("even",), ("layers",), ("sweeps",), ("best",), ("comes", 2, 2)], -33)

    def test_many_one_behind_another(self):
        refused = [call for group in REFUSALS.values() for call in group]
        for begun in (FULL, FALLING):
            ahead = whole(begun)
            for part in parts_of(refused + all_looks(3), 25):
                self.assertEqual(whole(begun + part), ahead)

    def test_asking_changes_nothing(self):
        asking = set(range(15, 44)) | {46, 47}
        self.assertEqual({NUMBERS[name] for name, *_ in all_looks(3)}, asking)
        for begun in (AT_FIRST, FULL, FALLING):
            some = LOOKS + [("rule_of", 2), ("far", 3), ("comes", 5, 4), ("join", 2, 7), ("meet", 2, 7)]
            self.check(begun, some)
