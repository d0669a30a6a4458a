"""What each change leaves behind: the last 20 pictures, and the sums."""

import unittest

from tests.helper import NUMBERS
from watchtowers.towers import answered
from watchtowers.watch import Watch


def watch_behind(*calls):
    watch = Watch()
    for name, *given in calls:
        answered(watch, NUMBERS[name], given)
    return watch


def sums(watch):
    return [watch.steps, watch.passes, watch.acts, watch.turns]


class Changes(unittest.TestCase):
    def test_each_change_is_kept_with_what_was_ahead(self):
        changes = [
            ("rule", 0, 5), ("like", 0, 0), ("against", 1, 0), ("both", 0, 0, 1), ("either", 0, 0, 1),
            ("always", 1, 1), ("flag", 0, 1), ("hold", 0), ("free", 0), ("order", 1, 0), ("step", 1),
            ("pass_on", 1), ("act", 0), ("settle", 0),
        ]
        watch = watch_behind(("start", 2))
        for done, (name, *given) in enumerate(changes):
            ahead = watch.picture()
            answered(watch, NUMBERS[name], given)
            self.assertEqual(len(watch.past), done + 1)
            self.assertEqual(watch.past[-1], ahead)

    def test_refused_and_looking_are_no_changes(self):
        calls = [
            ("rule", 2, 0), ("rule", 0, 16), ("like", 2, 0), ("flag", 0, 0), ("free", 0), ("order", 0), ("step", 0),
            ("pass_on", 101), ("act", 2), ("settle", 101), ("rule_of", 0), ("seen",), ("round_of",), ("rounds",),
            ("before",), ("gardens",), ("basin",), ("kinds",), ("even",), ("start", 5),
        ]
        watch = watch_behind(("start", 2), ("step", 3), *calls)
        self.assertEqual(len(watch.past), 1)
        self.assertEqual(sums(watch), [3, 0, 0, 0])

    def test_the_last_20_are_kept(self):
        watch = watch_behind(("start", 1), ("flag", 0, 1), *[("step", 1)] * 19)
        self.assertEqual(len(watch.past), 20)
        self.assertEqual(watch.past[0][0], 0)
        answered(watch, NUMBERS["act"], [0])
        self.assertEqual(len(watch.past), 20)
        self.assertEqual(watch.past[0][0], 1)

    def test_another_change_leaves_none_to_be_done_again(self):
        watch = watch_behind(("start", 1))
        watch.undone.append(watch.picture())
        answered(watch, NUMBERS["seen"], [])
        answered(watch, NUMBERS["flag"], [0, 0])
        self.assertEqual(len(watch.undone), 1)
        answered(watch, NUMBERS["flag"], [0, 1])
        self.assertEqual(watch.undone, [])

    def test_what_is_kept_does_not_move_along(self):
        watch = watch_behind(("start", 2), ("hold", 0), ("rule", 0, 0), ("order", 1, 0))
        rules = (10, 12)
        want = [(0, 0, rules, (0, 1)), (0, 1, rules, (0, 1)), (0, 1, (0, 12), (0, 1))]
        self.assertEqual([picture[:4] for picture in watch.past], want)

    def test_start_leaves_none(self):
        watch = watch_behind(("start", 1), ("against", 0, 0), ("step", 5), ("act", 0), ("start", 1))
        self.assertEqual((watch.past, watch.undone, sums(watch)), ([], [], [0, 0, 0, 0]))


class Sums(unittest.TestCase):
    def test_steps_passes_acts(self):
        watch = watch_behind(("start", 2), ("step", 7), ("step", 1), ("pass_on", 5), ("act", 0), ("act", 1))
        self.assertEqual(sums(watch), [8, 5, 2, 0])

    def test_acts_of_settle(self):
        watch = watch_behind(("start", 3), ("always", 0, 1), ("always", 2, 1), ("settle", 9), ("settle", 9))
        self.assertEqual(sums(watch), [0, 0, 2, 2])

    def test_flags_otherwise(self):
        against = [("start", 2), ("against", 0, 1), ("against", 1, 0)]
        self.assertEqual(sums(watch_behind(*against, ("step", 1))), [1, 0, 0, 2])
        self.assertEqual(sums(watch_behind(*against, ("step", 2))), [2, 0, 0, 0])
        self.assertEqual(sums(watch_behind(*against, ("step", 1), ("step", 1))), [2, 0, 0, 4])
        self.assertEqual(sums(watch_behind(*against, ("pass_on", 2), ("act", 0))), [0, 2, 1, 1])

    def test_flags_put_by_hand_do_not_count(self):
        self.assertEqual(sums(watch_behind(("start", 2), ("flag", 0, 1), ("flag", 1, 1))), [0, 0, 0, 0])
