"""Rest, and the passes that bring it (point 6)."""

from watchtowers.refusals import THERE_IS_NONE
from watchtowers.states import all_behind_step, behind_pass, state_count, states_at_rest


def rests(watch):
    found = states_at_rest(all_behind_step(watch.rules_now()))
    return [len(found)] + found


def sweeps(watch):
    rules = watch.rules_now()
    found = states_at_rest(all_behind_step(rules))
    state = watch.state
    # As many passes as there are states: behind them nothing new comes.
    for done in range(state_count(watch.n)):
        if state in found:
            return [done, state]
        state = behind_pass(rules, state, watch.order)
    return [THERE_IS_NONE]


def orders(n):
    found = [[]]
    for place in range(n):
        longer = []
        for towers in found:
            longer.extend([towers + [j] for j in range(n) if j not in towers])
        found = longer
    return found


def all_behind_pass(rules, towers):
    return [behind_pass(rules, state, towers) for state in range(state_count(len(rules)))]


def best(watch):
    rules = watch.rules_now()
    found = states_at_rest(all_behind_step(rules))
    good = []
    for towers in orders(watch.n):
        if all([state in found for state in all_behind_pass(rules, towers)]):
            good.append(towers)
    if len(good) == 0:
        return [THERE_IS_NONE]
    return [len(good)] + good[0]


def brings(watch):
    rules = watch.rules_now()
    found = sorted(set([behind_pass(rules, watch.state, towers) for towers in orders(watch.n)]))
    return [len(found)] + found
