"""Whom one must hold (point 8)."""

from watchtowers.refusals import THERE_IS_NONE, WRONG_NUMBER
from watchtowers.states import all_behind_step, held_rules, is_under, is_up, state_count, up_count
from watchtowers.watching import even_rings, kind_rows, rings


def smallest(sets):
    # The sets are rising, so the first of those as small is the least.
    sizes = [up_count(towers) for towers in sets]
    few = min(sizes)
    return [few, sets[sizes.index(few)]]


def has_one_of(towers, ring):
    return any([is_up(towers, j) for j in ring])


def smallest_cut(found, n):
    sets = []
    for towers in range(state_count(n)):
        if all([has_one_of(towers, ring) for ring in found]):
            sets.append(towers)
    return smallest(sets)


def cut(watch):
    return smallest_cut(rings(kind_rows(watch.rules_now())), watch.n)


def cut_even(watch):
    return smallest_cut(even_rings(kind_rows(watch.rules_now())), watch.n)


def lasting_states(rules):
    """The states of all rounds: those to which, in the end, all states come."""
    nexts = all_behind_step(rules)
    states = list(range(len(nexts)))
    behind = sorted(set(nexts))
    while len(behind) < len(states):
        states = behind
        behind = sorted(set([nexts[state] for state in states]))
    return states


def all_settle(rules):
    # One state alone on all rounds comes of itself, and all come to it.
    return len(lasting_states(rules)) == 1


def settles_all(rules, towers):
    for state in range(state_count(len(rules))):
        if is_under(state, towers) and not all_settle(held_rules(rules, towers, state)):
            return False
    return True


def fewest(watch):
    rules = watch.rules_now()
    return smallest([towers for towers in range(state_count(watch.n)) if settles_all(rules, towers)])


def comes(watch, h, v):
    if h >= state_count(watch.n) or not is_under(v, h):
        return [WRONG_NUMBER]
    lasting = lasting_states(held_rules(watch.rules_now(), h, v))
    if len(lasting) > 1:
        return [THERE_IS_NONE]
    return lasting
