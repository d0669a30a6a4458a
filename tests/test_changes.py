"""Point 10: back, again, sums, state."""

import unittest

from tests.helper import CHANGES, ask, last

# One change of each kind on two towers, none of which leaves all as it was.
EACH = [
    ("rule", 0, 5), ("like", 0, 1), ("against", 1, 1), ("both", 0, 0, 1), ("either", 0, 0, 1), ("always", 0, 1),
    ("flag", 0, 1), ("hold", 0), ("free", 0), ("order", 1, 0), ("step", 1), ("pass_on", 1), ("act", 0), ("settle", 2),
]
# These leave all as it was, but are changes.
IDLE = [
    ("rule", 0, 10), ("like", 1, 1), ("both", 0, 0, 0), ("either", 1, 1, 1), ("order", 0, 1), ("step", 1),
    ("pass_on", 100), ("act", 1), ("settle", 0), ("settle", 100),
]
# Refused on two towers as they are at first.
REFUSED = [
    ("start", 0), ("start", 5), ("rule", 2, 0), ("rule", 0, 16), ("like", 2, 0), ("like", 0, 2), ("against", 0, 2),
    ("both", 0, 0, 2), ("either", 2, 0, 0), ("always", 2, 0), ("always", 0, 2), ("flag", 2, 0), ("flag", 0, 2),
    ("flag", 0, 0), ("hold", 2), ("free", 2), ("free", 0), ("order",), ("order", 0), ("order", 0, 0),
    ("order", 0, 1, 2), ("step", 0), ("step", 101), ("pass_on", 0), ("pass_on", 101), ("act", 2), ("settle", 101),
]
LOOK = [("rule_of", 0), ("rule_of", 1), ("seen",), ("sums",), ("kinds",), ("rests",)]


def look(*calls):
    """All of the towers: rules, flags, held ones, order and sums, but not the changes."""
    found = ask(*calls, *LOOK, ("state",))[len(calls):]
    return found[:-1] + [found[-1][:3] + found[-1][5:]]


def counts(*calls):
    """How many changes can be taken back, how many done again."""
    return last(*calls, ("state",))[3:5]


class Back(unittest.TestCase):
    def test_none_at_first(self):
        for n in (1, 2, 3, 4):
            self.assertEqual(ask(("start", n), ("back",), ("back",))[1:], [[-6], [-6]])

    def test_each_kind_of_change(self):
        self.assertEqual([name for name, *_ in EACH], CHANGES)
        for many in range(len(EACH)):
            ahead = look(("start", 2), *EACH[:many])
            behind = look(("start", 2), *EACH[:many + 1])
            changed = [("start", 2), *EACH[:many + 1]]
            self.assertNotEqual(ahead, behind, EACH[many])
            self.assertEqual(look(*changed, ("back",)), ahead, EACH[many])
            self.assertEqual(look(*changed, ("back",), ("again",)), behind, EACH[many])

    def test_one_behind_another(self):
        done = [("start", 2), *EACH]
        for many in range(1, len(EACH) + 1):
            taken = done + [("back",)] * many
            self.assertEqual(last(*taken), [len(EACH) - many])
            self.assertEqual(look(*taken), look(*done[:len(done) - many]))
            self.assertEqual(counts(*taken), [len(EACH) - many, many])
        self.assertEqual(last(*done, *[("back",)] * (len(EACH) + 1)), [-6])

    def test_20_and_no_more(self):
        for many in (19, 20, 21, 22, 50):
            flags = [("flag", 0, 1 - place % 2) for place in range(many)]
            kept = min(many, 20)
            self.assertEqual(counts(("start", 2), *flags), [kept, 0])
            found = ask(("start", 2), *flags, *[("back",)] * (kept + 1), ("state",))[many + 1:]
            self.assertEqual(found[:-1], [[left] for left in range(kept - 1, -1, -1)] + [[-6]])
            self.assertEqual(found[-1], [2, (many - kept) % 2, 0, 0, kept, 0, 1])

    def test_what_is_behind_20_stays(self):
        rules = [("rule", 0, r) for r in range(10)] + [("rule", 1, r) for r in range(15)]
        found = ask(("start", 2), *rules, *[("back",)] * 21, ("rule_of", 0), ("rule_of", 1))
        self.assertEqual(found[-3:], [[-6], [4], [12]])

    def test_what_fell_out_does_not_come_back(self):
        # 20 are kept of 25; five taken back, and two more made, make 17.
        acts = [("act", 0)] * 25 + [("back",)] * 5 + [("act", 1)] * 2
        self.assertEqual(counts(("start", 2), *acts), [17, 0])

    def test_a_change_that_left_all_as_it_was_counts(self):
        for change in IDLE:
            self.assertGreaterEqual(last(("start", 2), change)[0], 0)
            found = ask(("start", 2), ("hold", 0), ("free", 0), change, ("back",), ("state",), ("back",), ("state",))
            self.assertEqual(found[4:], [[2], [2, 0, 0, 2, 1, 0, 1], [1], [2, 0, 1, 1, 2, 0, 1]])

    def test_a_refused_call_does_not_count(self):
        for call in REFUSED:
            self.assertLess(last(("start", 2), call)[0], 0)
            found = ask(("start", 2), ("hold", 1), ("act", 0), ("back",), call, ("state",), ("again",), call, ("back",))
            self.assertEqual(found[5:7], [[2, 0, 2, 1, 1, 0, 1], [0]], call)
            self.assertEqual(found[8], [1], call)

    def test_start_forgets_all(self):
        done = [("start", 2), *EACH, ("back",), ("back",)]
        for n in (1, 2, 4):
            found = ask(*done, ("start", n), ("state",), ("back",), ("again",), ("sums",))[len(done):]
            self.assertEqual(found, [[0], [n, 0, 0, 0, 0] + list(range(n)), [-6], [-6], [0, 0, 0, 0]])

    def test_a_refused_start_forgets_nothing(self):
        done = [("start", 2), *EACH, ("back",), ("back",)]
        self.assertEqual(counts(*done, ("start", 0), ("start", 5)), [12, 2])
        self.assertEqual(look(*done, ("start", 0), ("back",)), look(("start", 2), *EACH[:11]))

    def test_what_was_taken_back_is_not_what_is_kept(self):
        # A rule told behind back must not show in what again brings.
        found = ask(
            ("start", 2), ("rule", 0, 3), ("order", 1, 0), ("back",), ("back",), ("rule_of", 0), ("again",),
            ("rule_of", 0), ("again",), ("rule", 0, 7), ("back",), ("rule_of", 0), ("back",), ("back",), ("rule_of", 0),
            ("state",),
        )
        self.assertEqual([found[place] for place in (5, 7, 11, 14)], [[10], [3], [3], [10]])
        self.assertEqual(found[15], [2, 0, 0, 0, 3, 0, 1])


class Again(unittest.TestCase):
    def test_none_at_first(self):
        for n in (1, 2, 3, 4):
            self.assertEqual(last(("start", n), ("again",)), [-6])

    def test_none_but_behind_back(self):
        self.assertEqual(last(("start", 2), ("act", 0), ("again",)), [-6])
        self.assertEqual(last(("start", 2), ("act", 0), ("back",), ("again",), ("again",)), [-6])

    def test_a_refused_back_leaves_none(self):
        self.assertEqual(last(("start", 2), ("back",), ("again",)), [-6])
        self.assertEqual(ask(("start", 2), ("act", 0), *[("back",)] * 3, *[("again",)] * 2)[-2:], [[0], [-6]])

    def test_last_taken_back_first(self):
        taken = [("start", 2), *EACH, *[("back",)] * len(EACH)]
        for many in range(1, len(EACH) + 1):
            done = taken + [("again",)] * many
            self.assertEqual(last(*done), [len(EACH) - many])
            self.assertEqual(look(*done), look(("start", 2), *EACH[:many]))
            self.assertEqual(counts(*done), [many, len(EACH) - many])

    def test_20_taken_back_and_done_again(self):
        done = [("start", 2), *[("step", 1)] * 30, *[("back",)] * 25]
        self.assertEqual(counts(*done), [0, 20])
        self.assertEqual(counts(*done, *[("again",)] * 25), [20, 0])
        self.assertEqual(last(*done, ("sums",)), [10, 0, 0, 0])
        self.assertEqual(last(*done, *[("again",)] * 25, ("sums",)), [30, 0, 0, 0])

    def test_till_another_change(self):
        taken = [("start", 2), ("flag", 1, 1), ("hold", 1), ("act", 0), ("back",), ("back",)]
        self.assertEqual(counts(*taken), [1, 2])
        for change in EACH[:7] + EACH[9:] + IDLE[4:]:
            self.assertEqual(counts(*taken, change), [2, 0])
            self.assertEqual(last(*taken, change, ("again",)), [-6])
            self.assertEqual(look(*taken, change, ("back",)), look(("start", 2), ("flag", 1, 1)))

    def test_a_refused_call_or_a_look_leaves_them(self):
        taken = [("start", 2), ("always", 0, 1), ("back",)]
        looks = [("seen",), ("state",), ("sums",), ("fewest",), ("join", 0, 9), ("far", 3), ("comes", 4, 4)]
        for call in REFUSED + looks:
            self.assertEqual(ask(*taken, call, ("again",), ("rule_of", 0))[-2:], [[0], [15]])

    def test_all_taken_back_and_another_change(self):
        taken = [("start", 2), *EACH, *[("back",)] * 15]
        self.assertEqual(ask(*taken)[-2:], [[0], [-6]])
        self.assertEqual(look(*taken), look(("start", 2)))
        behind = [*taken, ("against", 0, 0)]
        self.assertEqual(last(*behind), [10])
        self.assertEqual(counts(*behind), [1, 0])
        self.assertEqual(ask(*behind, ("again",), ("back",), ("back",), ("again",), ("again",))[-5:],
                         [[-6], [0], [-6], [0], [-6]])
        self.assertEqual(look(*behind), look(("start", 2), ("against", 0, 0)))


class Sums(unittest.TestCase):
    def sums(self, *calls):
        return last(*calls, ("sums",))

    def test_at_first(self):
        for n in (1, 2, 3, 4):
            self.assertEqual(self.sums(("start", n)), [0, 0, 0, 0])

    def test_steps_passes_acts(self):
        calls = [("start", 2), ("step", 7), ("step", 100), ("pass_on", 5), ("pass_on", 1), ("act", 0), ("act", 1)]
        self.assertEqual(self.sums(*calls), [107, 6, 2, 0])

    def test_acts_of_settle(self):
        calls = [("start", 3), ("always", 0, 1), ("always", 2, 1)]
        self.assertEqual(self.sums(*calls, ("settle", 9), ("settle", 9)), [0, 0, 2, 2])
        self.assertEqual(self.sums(*calls, ("settle", 0)), [0, 0, 0, 0])
        self.assertEqual(self.sums(*calls, ("settle", 1), ("act", 0)), [0, 0, 2, 1])

    def test_an_act_by_which_nothing_changes(self):
        self.assertEqual(self.sums(("start", 2), ("act", 0), ("act", 0)), [0, 0, 2, 0])

    def test_flags_otherwise(self):
        against = [("start", 2), ("against", 0, 1), ("against", 1, 0)]
        self.assertEqual(self.sums(*against, ("step", 1)), [1, 0, 0, 2])
        self.assertEqual(self.sums(*against, ("step", 1), ("step", 1)), [2, 0, 0, 4])
        self.assertEqual(self.sums(*against, ("pass_on", 2), ("act", 0)), [0, 2, 1, 1])

    def test_what_is_back_as_it_was_is_not_otherwise(self):
        against = [("start", 2), ("against", 0, 1), ("against", 1, 0)]
        self.assertEqual(self.sums(*against, ("step", 2)), [2, 0, 0, 0])
        self.assertEqual(self.sums(("start", 1), ("against", 0, 0), ("settle", 4)), [0, 0, 4, 0])
        self.assertEqual(self.sums(("start", 1), ("against", 0, 0), ("pass_on", 3)), [0, 3, 0, 1])

    def test_flags_put_by_hand_do_not_count(self):
        self.assertEqual(self.sums(("start", 2), ("flag", 0, 1), ("flag", 1, 1), ("flag", 0, 0)), [0, 0, 0, 0])

    def test_refused_does_not_count(self):
        self.assertEqual(self.sums(("start", 2), ("step", 3), *REFUSED), [3, 0, 0, 0])

    def test_taken_back_and_done_again(self):
        calls = [("start", 2), ("against", 0, 1), ("step", 3), ("pass_on", 2), ("act", 0), ("settle", 7)]
        behind = [self.sums(*calls[:many]) for many in range(2, 7)]
        self.assertEqual(behind, [[0, 0, 0, 0], [3, 0, 0, 1], [3, 2, 0, 1], [3, 2, 1, 1], [3, 2, 1, 1]])
        for many in range(5):
            taken = calls + [("back",)] * many
            self.assertEqual(self.sums(*taken), behind[4 - many])
            self.assertEqual(self.sums(*taken, *[("again",)] * many), behind[4])

    def test_flags_that_back_and_again_turn_do_not_count(self):
        calls = [("start", 2), ("step", 1), ("flag", 0, 1), ("flag", 1, 1)]
        self.assertEqual(self.sums(*calls, ("back",), ("back",), ("again",), ("back",)), [1, 0, 0, 0])


class State(unittest.TestCase):
    def test_at_first(self):
        for n in (1, 2, 3, 4):
            self.assertEqual(last(("start", n), ("state",)), [n, 0, 0, 0, 0] + list(range(n)))

    def test_in_their_order(self):
        calls = [("start", 4), ("flag", 0, 1), ("flag", 3, 1), ("hold", 1), ("order", 2, 3, 0, 1), ("act", 2)]
        self.assertEqual(last(*calls, ("state",)), [4, 9, 2, 5, 0, 2, 3, 0, 1])
        self.assertEqual(last(*calls, ("back",), ("state",)), [4, 9, 2, 4, 1, 2, 3, 0, 1])

    def test_behind_back_and_again(self):
        calls = [("start", 3), ("order", 2, 0, 1), ("hold", 2), ("flag", 1, 1)]
        wants = [[3, 2, 4, 3, 0, 2, 0, 1], [3, 0, 4, 2, 1, 2, 0, 1], [3, 0, 0, 1, 2, 2, 0, 1], [3, 0, 0, 0, 3, 0, 1, 2]]
        for many, want in enumerate(wants):
            self.assertEqual(last(*calls, *[("back",)] * many, ("state",)), want)
            done = [("back",)] * 3 + [("again",)] * (3 - many)
            self.assertEqual(last(*calls, *done, ("state",)), want)

    def test_the_order_it_tells_is_no_part_of_it(self):
        found = ask(("start", 2), ("state",), ("order", 1, 0), ("state",), ("back",), ("state",))
        self.assertEqual([found[1][5:], found[3][5:], found[5][5:]], [[0, 1], [1, 0], [0, 1]])
