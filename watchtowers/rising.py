"""Rules that rise (point 9)."""

from watchtowers.refusals import NOT_RISING, THERE_IS_NONE, WRONG_NUMBER
from watchtowers.states import all_behind_step, is_under, state_count, states_at_rest


def rules_rise(nexts):
    for other in range(len(nexts)):
        for state in range(other):
            if is_under(state, other) and not is_under(nexts[state], nexts[other]):
                return False
    return True


def rises(watch):
    if rules_rise(all_behind_step(watch.rules_now())):
        return [1]
    return [0]


def rest_from(nexts, state):
    """The state at rest that comes of this one, and behind how many steps."""
    now = state
    done = 0
    while nexts[now] != now:
        now = nexts[now]
        done += 1
    return [now, done]


def least(watch):
    nexts = all_behind_step(watch.rules_now())
    if not rules_rise(nexts):
        return [NOT_RISING]
    # From no flag up flags only go up, and never above a state at rest.
    return rest_from(nexts, 0)


def greatest(watch):
    nexts = all_behind_step(watch.rules_now())
    if not rules_rise(nexts):
        return [NOT_RISING]
    return rest_from(nexts, state_count(watch.n) - 1)


def pair_refused(watch, nexts, x, y):
    """The refusal of join and meet that is due, 0 if none is."""
    if max(x, y) >= state_count(watch.n):
        return WRONG_NUMBER
    if not rules_rise(nexts):
        return NOT_RISING
    if nexts[x] != x or nexts[y] != y:
        return THERE_IS_NONE
    return 0


def join(watch, x, y):
    nexts = all_behind_step(watch.rules_now())
    refused = pair_refused(watch, nexts, x, y)
    if refused < 0:
        return [refused]
    # Where one state is under all others, it is the least number too.
    return [min([state for state in states_at_rest(nexts) if is_under(x | y, state)])]


def meet(watch, x, y):
    nexts = all_behind_step(watch.rules_now())
    refused = pair_refused(watch, nexts, x, y)
    if refused < 0:
        return [refused]
    return [max([state for state in states_at_rest(nexts) if is_under(state, x & y)])]
