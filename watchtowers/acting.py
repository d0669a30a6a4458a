"""The acts: all at once, one behind another, alone (point 3)."""

from watchtowers.refusals import NO_TOWER, WRONG_NUMBER
from watchtowers.states import behind_act, behind_pass, behind_step, turned, would_change

MOST_ACTS = 100


def step(watch, k):
    if k < 1 or k > MOST_ACTS:
        return [WRONG_NUMBER]
    rules = watch.rules_now()
    state = watch.state
    for done in range(k):
        state = behind_step(rules, state)
    watch.steps += k
    watch.go_to(state)
    return [state]


def pass_on(watch, k):
    if k < 1 or k > MOST_ACTS:
        return [WRONG_NUMBER]
    rules = watch.rules_now()
    state = watch.state
    for done in range(k):
        state = behind_pass(rules, state, watch.order)
    watch.passes += k
    watch.go_to(state)
    return [state]


def act(watch, j):
    if not watch.has_tower(j):
        return [NO_TOWER]
    state = behind_act(watch.rules_now(), watch.state, j)
    watch.acts += 1
    watch.go_to(state)
    return [state]


def moving_towers(rules, state):
    return [j for j in range(len(rules)) if would_change(rules, state, j)]


def settle(watch, k):
    if k > MOST_ACTS:
        return [WRONG_NUMBER]
    rules = watch.rules_now()
    state = watch.state
    done = 0
    moving = moving_towers(rules, state)
    while done < k and len(moving) > 0:
        state = turned(state, moving[0])
        done += 1
        moving = moving_towers(rules, state)
    watch.acts += done
    watch.go_to(state)
    return [done, state]


def seen(watch):
    return [watch.state, behind_step(watch.rules_now(), watch.state)]
