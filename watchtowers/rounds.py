"""Where the towers come, all at once (point 4)."""

from watchtowers.states import all_behind_step


def states_passed(nexts, state):
    passed = []
    now = state
    while now not in passed:
        passed.append(now)
        now = nexts[now]
    return passed


def way_length(nexts, state):
    passed = states_passed(nexts, state)
    return passed.index(nexts[passed[-1]])


def round_states(nexts, state):
    return states_passed(nexts, state)[way_length(nexts, state):]


def round_of(watch):
    nexts = all_behind_step(watch.rules_now())
    states = round_states(nexts, watch.state)
    return [way_length(nexts, watch.state), len(states)] + states


def rounds(watch):
    nexts = all_behind_step(watch.rules_now())
    found = 0
    told = []
    for state in range(len(nexts)):
        states = round_states(nexts, state)
        if min(states) == state:
            found += 1
            told.append(state)
            told.append(len(states))
    return [found] + told


def before(watch):
    nexts = all_behind_step(watch.rules_now())
    states = [state for state in range(len(nexts)) if nexts[state] == watch.state]
    return [len(states)] + states


def gardens(watch):
    nexts = all_behind_step(watch.rules_now())
    states = [state for state in range(len(nexts)) if state not in nexts]
    return [len(states)] + states


def basin(watch):
    nexts = all_behind_step(watch.rules_now())
    # Two rounds share no state, so a round is known by its least one.
    least = min(round_states(nexts, watch.state))
    states = [state for state in range(len(nexts)) if min(round_states(nexts, state)) == least]
    return [len(states)]
