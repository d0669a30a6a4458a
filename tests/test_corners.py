"""The corners that stand below point 11, call by call."""

import unittest

from tests.helper import Model, all_looks, ask, last, set_up

# Whatever takes no number, in the order of the calls, as these tests write it down.
ASKED = (
    "seen round_of rounds before gardens basin kinds even odd layers rests sweeps best brings moves reach traps may "
    "cut cut_even fewest rises least greatest sums state"
).split()


def answers_of(calls):
    found = ask(*calls, *[(name,) for name in ASKED])[len(calls):]
    return dict(zip(ASKED, found))


class Corners(unittest.TestCase):
    def check(self, calls, **wants):
        found = answers_of(calls)
        for name, want in wants.items():
            self.assertEqual(found[name], want, (name, calls))
        model = Model()
        for call in calls:
            model.call(*call)
        looks = all_looks(model.n)
        for place in range(0, len(looks), 100):
            part = looks[place:place + 100]
            want = [model.call(*call) for call in part]
            self.assertEqual(ask(*calls, *part)[len(calls):], want)

    def test_one_tower_that_stays(self):
        self.check(
            [("start", 1), ("flag", 0, 1)],
            seen=[1, 1], round_of=[0, 1, 1], rounds=[2, 0, 1, 1, 1], before=[1, 1], gardens=[0], basin=[1],
            kinds=[1, 1], even=[1, 0], odd=[-33], layers=[-33], rests=[2, 0, 1], sweeps=[0, 1], best=[1, 0],
            brings=[1, 1], moves=[0], reach=[1, 1], traps=[2, 0, 1, 1, 1], may=[2], cut=[1, 1], cut_even=[1, 1],
            fewest=[1, 1], rises=[1], least=[0, 0], greatest=[1, 0], sums=[0, 0, 0, 0], state=[1, 1, 0, 1, 0, 0],
        )

    def test_one_tower_that_turns(self):
        self.check(
            [("start", 1), ("against", 0, 0)],
            seen=[0, 1], round_of=[0, 2, 0, 1], rounds=[1, 0, 2], before=[1, 1], gardens=[0], basin=[2],
            kinds=[1, 2], even=[-33], odd=[1, 0], layers=[-33], rests=[0], sweeps=[-33], best=[-33],
            brings=[1, 1], moves=[1, 0], reach=[2, 0, 1], traps=[1, 0, 2], may=[0], cut=[1, 1], cut_even=[0, 0],
            fewest=[1, 1], rises=[0], least=[-16], greatest=[-16], sums=[0, 0, 0, 0], state=[1, 0, 0, 1, 0, 0],
        )

    def test_one_tower_always_up(self):
        self.check(
            [("start", 1), ("always", 0, 1)],
            seen=[0, 1], round_of=[1, 1, 1], rounds=[1, 1, 1], before=[0], gardens=[1, 0], basin=[2],
            kinds=[0, 0], even=[-33], odd=[-33], layers=[1, 0], rests=[1, 1], sweeps=[1, 1], best=[1, 0],
            brings=[1, 1], moves=[1, 0], reach=[2, 0, 1], traps=[1, 1, 1], may=[2], cut=[0, 0], cut_even=[0, 0],
            fewest=[0, 0], rises=[1], least=[1, 1], greatest=[1, 0],
        )

    def test_all_held(self):
        against = [("start", 2), ("against", 0, 0), ("against", 1, 0), ("flag", 1, 1), ("hold", 0), ("hold", 1)]
        self.check(
            against,
            seen=[2, 2], round_of=[0, 1, 2], rounds=[1, 2, 1], before=[4, 0, 1, 2, 3], gardens=[3, 0, 1, 3],
            basin=[4], kinds=[0, 0, 0, 0, 0], even=[-33], odd=[-33], layers=[1, 0, 0], rests=[1, 2],
            sweeps=[0, 2], best=[2, 0, 1], brings=[1, 2], moves=[0], reach=[1, 2], traps=[1, 2, 1], may=[2],
            cut=[0, 0], cut_even=[0, 0], fewest=[0, 0], rises=[1], least=[2, 1], greatest=[2, 1],
            sums=[0, 0, 0, 0], state=[2, 2, 3, 5, 0, 0, 1],
        )
        self.assertEqual(ask(*against, ("join", 2, 2), ("meet", 2, 2), ("join", 0, 2))[6:], [[2], [2], [-33]])
        self.assertEqual(ask(*against, ("comes", 0, 0), ("comes", 1, 1), ("comes", 2, 0))[6:], [[2], [3], [0]])

    def test_a_held_flag_put_by_hand(self):
        # Tower 1 is as tower 0, which is held: always down, then always up.
        calls = [("start", 2), ("always", 0, 1), ("like", 1, 0), ("hold", 0)]
        self.check(calls, rests=[1, 0], least=[0, 0], greatest=[0, 2], seen=[0, 0], sweeps=[0, 0])
        calls = calls + [("flag", 0, 1)]
        self.check(calls, rests=[1, 3], least=[3, 2], greatest=[3, 0], seen=[1, 3], sweeps=[1, 3], reach=[2, 1, 3])
        self.check(calls + [("back",)], rests=[1, 0], least=[0, 0], seen=[0, 0], state=[2, 0, 1, 3, 1, 0, 1])
        self.check(calls + [("step", 9), ("flag", 0, 0)], seen=[2, 0], rests=[1, 0], reach=[2, 0, 2], sums=[9, 0, 0, 1])

    def test_a_rule_told_while_it_is_held(self):
        calls = [("start", 2), ("hold", 0), ("against", 0, 1), ("like", 1, 0)]
        self.assertEqual(last(*calls, ("rule_of", 0)), [3])
        self.check(calls, kinds=[1, 0, 0, 1, 0], layers=[2, 0, 1], odd=[-33], rests=[1, 0], rises=[1], cut=[0, 0])
        freed = calls + [("free", 0)]
        self.check(freed, kinds=[2, 0, 2, 1, 0], layers=[-33], odd=[2, 0, 1], rests=[0], rises=[0], cut=[1, 1])
        self.check(freed + [("back",)], kinds=[1, 0, 0, 1, 0], odd=[-33], state=[2, 0, 1, 3, 1, 0, 1])
        self.assertEqual(ask(*freed, ("back",), ("back",), ("back",), ("rule_of", 0))[-1], [10])
        self.assertEqual(ask(*freed, *[("back",)] * 3, ("again",), ("rule_of", 0))[-1], [3])

    def test_a_tower_that_watches_itself(self):
        # Tower 0 turns while 1 is up; 1 stays.
        calls = [("start", 2), ("rule", 0, 0b0110)]
        wants = dict(
            kinds=[3, 3, 3, 0, 1], even=[1, 0], odd=[1, 0], layers=[-33], rests=[2, 0, 1], best=[-33], cut=[2, 3],
            cut_even=[2, 3], fewest=[2, 3], rises=[0], traps=[3, 0, 1, 1, 1, 2, 2],
        )
        self.check(calls, may=[2], reach=[1, 0], sweeps=[0, 0], **wants)
        self.check(calls + [("flag", 1, 1)], may=[0], reach=[2, 2, 3], sweeps=[-33], **wants)

    def test_settle_of_0_and_till_none_would(self):
        calls = [("start", 2), ("against", 0, 1), ("against", 1, 0)]
        self.assertEqual(last(*calls, ("settle", 0)), [0, 0])
        self.check(calls + [("settle", 0)], sums=[0, 0, 0, 0], state=[2, 0, 0, 3, 0, 0, 1])
        self.assertEqual(last(*calls, ("settle", 100)), [1, 1])
        self.check(calls + [("settle", 100)], sums=[0, 0, 1, 1], state=[2, 1, 0, 3, 0, 0, 1], moves=[0])
        self.check(calls + [("settle", 100), ("back",)], sums=[0, 0, 0, 0], state=[2, 0, 0, 2, 1, 0, 1])

    def test_a_step_that_brings_back_what_was(self):
        calls = [("start", 2), ("against", 0, 1), ("against", 1, 0)]
        self.check(calls + [("step", 1)], sums=[1, 0, 0, 2], state=[2, 3, 0, 3, 0, 0, 1])
        self.check(calls + [("step", 2)], sums=[2, 0, 0, 0], state=[2, 0, 0, 3, 0, 0, 1])
        self.check(calls + [("step", 2), ("back",)], sums=[0, 0, 0, 0], state=[2, 0, 0, 2, 1, 0, 1])
        self.check(calls + [("step", 1), ("step", 1)], sums=[2, 0, 0, 4], state=[2, 0, 0, 4, 0, 0, 1])

    def test_all_taken_back_and_another_change(self):
        calls = [("start", 2), ("always", 0, 1), ("step", 1), ("hold", 0), ("back",), ("back",), ("back",)]
        self.assertEqual(ask(*calls, ("back",))[-4:], [[2], [1], [0], [-6]])
        self.check(calls, state=[2, 0, 0, 0, 3, 0, 1], sums=[0, 0, 0, 0], rests=[4, 0, 1, 2, 3])
        self.check(calls + [("always", 1, 1)], state=[2, 0, 0, 1, 0, 0, 1], sums=[0, 0, 0, 0], rests=[2, 2, 3])
        self.assertEqual(ask(*calls, ("always", 1, 1), ("again",), ("back",), ("back",))[-3:], [[-6], [0], [-6]])

    def test_every_corner_of_one_tower(self):
        for rule in range(4):
            for v in (0, 1):
                for held in (0, 1):
                    self.check(set_up([rule], v, held))
