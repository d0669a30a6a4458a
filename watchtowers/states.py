"""States and rules as whole numbers, and what comes of a state by them.

A state counts 2 to the power of j for each tower j whose flag is up; a set
of towers likewise. A rule counts 2 to the power of s for each state s behind
which the flag is up.
"""


def state_count(n):
    return 1 << n


def is_up(state, j):
    return (state >> j) & 1 == 1


def with_up(state, j):
    return state | (1 << j)


def turned(state, j):
    return state ^ (1 << j)


def up_count(state):
    rest = state
    found = 0
    while rest > 0:
        found += rest & 1
        rest = rest >> 1
    return found


def rule_count(n):
    return 1 << state_count(n)


def always_rule(n, v):
    if v == 1:
        return rule_count(n) - 1
    return 0


def like_rule(n, i):
    return sum([1 << state for state in range(state_count(n)) if is_up(state, i)])


def says_up(rule, state):
    return (rule >> state) & 1 == 1


def is_under(state, other):
    return state & other == state


def held_rules(rules, held, state):
    """The rules with these towers held, as their flags are in this state."""
    n = len(rules)
    taken = list(rules)
    for j in range(n):
        if is_up(held, j):
            taken[j] = always_rule(n, 1 if is_up(state, j) else 0)
    return taken


def would_change(rules, state, j):
    return says_up(rules[j], state) != is_up(state, j)


def behind_act(rules, state, j):
    if would_change(rules, state, j):
        return turned(state, j)
    return state


def behind_pass(rules, state, order):
    now = state
    for j in order:
        now = behind_act(rules, now, j)
    return now


def behind_step(rules, state):
    now = 0
    for j in range(len(rules)):
        if says_up(rules[j], state):
            now = with_up(now, j)
    return now


def all_behind_step(rules):
    return [behind_step(rules, state) for state in range(state_count(len(rules)))]


def states_at_rest(nexts):
    return [state for state in range(len(nexts)) if nexts[state] == state]
