"""One at a time: where changes of one lead (point 7)."""

from watchtowers.acting import moving_towers
from watchtowers.refusals import THERE_IS_NONE, WRONG_NUMBER
from watchtowers.states import state_count, turned

REST_FROM_ALL = 2
REST_FROM_HERE = 1
NO_REST = 0


def moves(watch):
    found = moving_towers(watch.rules_now(), watch.state)
    return [len(found)] + found


def changes_to(rules, state):
    """By each state that is come to from this one: how few changes of one lead there."""
    few = {state: 0}
    wave = [state]
    while len(wave) > 0:
        coming = []
        for now in wave:
            for j in moving_towers(rules, now):
                other = turned(now, j)
                if other not in few:
                    few[other] = few[now] + 1
                    coming.append(other)
        wave = coming
    return few


def come_to(rules, state):
    return sorted(changes_to(rules, state))


def all_come_to(rules):
    return [come_to(rules, state) for state in range(state_count(len(rules)))]


def reach(watch):
    found = come_to(watch.rules_now(), watch.state)
    return [len(found)] + found


def far(watch, x):
    if x >= state_count(watch.n):
        return [WRONG_NUMBER]
    few = changes_to(watch.rules_now(), watch.state)
    if x not in few:
        return [THERE_IS_NONE]
    return [few[x]]


def traps(watch):
    reached = all_come_to(watch.rules_now())
    found = 0
    told = []
    for state in range(len(reached)):
        # All that is come to leads back here, so nothing leads out; told at its least.
        back_here = all([state in reached[other] for other in reached[state]])
        if back_here and reached[state][0] == state:
            found += 1
            told.append(state)
            told.append(len(reached[state]))
    return [found] + told


def may(watch):
    rules = watch.rules_now()
    reached = all_come_to(rules)
    resting = [state for state in range(len(reached)) if len(moving_towers(rules, state)) == 0]
    leading = [state for state in range(len(reached)) if any([rest in reached[state] for rest in resting])]
    if all([state in leading for state in reached[watch.state]]):
        return [REST_FROM_ALL]
    if watch.state in leading:
        return [REST_FROM_HERE]
    return [NO_REST]
