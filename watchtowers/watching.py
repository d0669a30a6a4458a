"""Who watches whom, the rings and the layers (point 5)."""

from watchtowers.refusals import THERE_IS_NONE
from watchtowers.states import is_up, says_up, state_count, with_up

NOT_WATCHED = 0
LIFTED = 1
LOWERED = 2
LIFTED_AND_LOWERED = 3


def kind_of(rule, i, n):
    kind = NOT_WATCHED
    for state in range(state_count(n)):
        if not is_up(state, i):
            down_says = says_up(rule, state)
            up_says = says_up(rule, with_up(state, i))
            if up_says and not down_says:
                kind = kind | LIFTED
            if down_says and not up_says:
                kind = kind | LOWERED
    return kind


def kind_rows(rules):
    n = len(rules)
    rows = []
    for j in range(n):
        rows.append([kind_of(rules[j], i, n) for i in range(n)])
    return rows


def kinds(watch):
    told = []
    for row in kind_rows(watch.rules_now()):
        told.extend(row)
    return [len(told) - told.count(NOT_WATCHED)] + told


def longer_chains(rows, chains):
    # None but the first tower is the least, so that each ring comes just once.
    longer = []
    for chain in chains:
        for j in range(chain[0] + 1, len(rows)):
            if j not in chain and rows[j][chain[-1]] != NOT_WATCHED:
                longer.append(chain + [j])
    return longer


def rings(rows):
    # All chains are in order and as long, so the rings come out in order too.
    found = []
    chains = [[j] for j in range(len(rows))]
    while len(chains) > 0:
        found.extend([chain for chain in chains if rows[chain[0]][chain[-1]] != NOT_WATCHED])
        chains = longer_chains(rows, chains)
    return found


def ring_kinds(rows, ring):
    taken = [rows[ring[0]][ring[-1]]]
    for place in range(1, len(ring)):
        taken.append(rows[ring[place]][ring[place - 1]])
    return taken


def can_be_even(rows, ring):
    taken = ring_kinds(rows, ring)
    return LIFTED_AND_LOWERED in taken or taken.count(LOWERED) % 2 == 0


def can_be_odd(rows, ring):
    taken = ring_kinds(rows, ring)
    return LIFTED_AND_LOWERED in taken or taken.count(LOWERED) % 2 == 1


def even_rings(rows):
    return [ring for ring in rings(rows) if can_be_even(rows, ring)]


def odd_rings(rows):
    return [ring for ring in rings(rows) if can_be_odd(rows, ring)]


def first_ring(found):
    if len(found) == 0:
        return [THERE_IS_NONE]
    return [len(found[0])] + found[0]


def even(watch):
    return first_ring(even_rings(kind_rows(watch.rules_now())))


def odd(watch):
    return first_ring(odd_rings(kind_rows(watch.rules_now())))


def layer_of(row, known):
    return max([0] + [known[i] + 1 for i in range(len(row)) if row[i] != NOT_WATCHED])


def layers_of(rows):
    # Without a ring a layer is right as soon as those below it are: n times will do.
    known = [0 for row in rows]
    for done in range(len(rows)):
        known = [layer_of(row, known) for row in rows]
    return known


def layers(watch):
    rows = kind_rows(watch.rules_now())
    if len(rings(rows)) > 0:
        return [THERE_IS_NONE]
    known = layers_of(rows)
    return [max(known) + 1] + known
