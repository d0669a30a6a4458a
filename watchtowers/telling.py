"""Start, rules, flags by hand, held towers and the order (points 1 and 2)."""

from watchtowers.refusals import NO_TOWER, SO_ALREADY, WRONG_NUMBER
from watchtowers.states import always_rule, is_up, like_rule, rule_count, turned, up_count

MOST_TOWERS = 4


def start(watch, n):
    if n < 1 or n > MOST_TOWERS:
        return [WRONG_NUMBER]
    watch.begin(n)
    return [0]


def tell_rule(watch, j, r):
    was = watch.rules[j]
    watch.rules[j] = r
    return [was]


def rule(watch, j, r):
    if not watch.has_tower(j):
        return [NO_TOWER]
    if r >= rule_count(watch.n):
        return [WRONG_NUMBER]
    return tell_rule(watch, j, r)


def like(watch, j, i):
    if not (watch.has_tower(j) and watch.has_tower(i)):
        return [NO_TOWER]
    return tell_rule(watch, j, like_rule(watch.n, i))


def against(watch, j, i):
    if not (watch.has_tower(j) and watch.has_tower(i)):
        return [NO_TOWER]
    return tell_rule(watch, j, always_rule(watch.n, 1) ^ like_rule(watch.n, i))


def both(watch, j, i, k):
    if not (watch.has_tower(j) and watch.has_tower(i) and watch.has_tower(k)):
        return [NO_TOWER]
    return tell_rule(watch, j, like_rule(watch.n, i) & like_rule(watch.n, k))


def either(watch, j, i, k):
    if not (watch.has_tower(j) and watch.has_tower(i) and watch.has_tower(k)):
        return [NO_TOWER]
    return tell_rule(watch, j, like_rule(watch.n, i) | like_rule(watch.n, k))


def always(watch, j, v):
    if not watch.has_tower(j):
        return [NO_TOWER]
    if v > 1:
        return [WRONG_NUMBER]
    return tell_rule(watch, j, always_rule(watch.n, v))


def flag(watch, j, v):
    if not watch.has_tower(j):
        return [NO_TOWER]
    if v > 1:
        return [WRONG_NUMBER]
    if is_up(watch.state, j) == (v == 1):
        return [SO_ALREADY]
    watch.state = turned(watch.state, j)
    return [up_count(watch.state)]


def hold(watch, j):
    if not watch.has_tower(j):
        return [NO_TOWER]
    if is_up(watch.held, j):
        return [SO_ALREADY]
    watch.held = turned(watch.held, j)
    return [up_count(watch.held)]


def free(watch, j):
    if not watch.has_tower(j):
        return [NO_TOWER]
    if not is_up(watch.held, j):
        return [SO_ALREADY]
    watch.held = turned(watch.held, j)
    return [up_count(watch.held)]


def order(watch, towers):
    if sorted(towers) != list(range(watch.n)):
        return [WRONG_NUMBER]
    watch.order = list(towers)
    return [0]


def rule_of(watch, j):
    if not watch.has_tower(j):
        return [NO_TOWER]
    return [watch.rules[j]]
