"""The calls on one object, one behind another, as one list of whole numbers."""

from watchtowers.acting import act, pass_on, seen, settle, step
from watchtowers.rounds import basin, before, gardens, round_of, rounds
from watchtowers.telling import (
    against, always, both, either, flag, free, hold, like, order, rule, rule_of, start,
)
from watchtowers.watch import Watch
from watchtowers.watching import even, kinds

# By its number each call's name, and how many whole numbers stand behind it;
# order has a row instead, which tells its own size.
NAMES = (
    "start", "rule", "like", "against", "both", "either", "always", "flag", "hold", "free",
    "order", "step", "pass_on", "act", "settle", "rule_of", "seen", "round_of", "rounds",
    "before", "gardens", "basin", "kinds", "even",
)
SIZES = (1, 2, 2, 2, 3, 3, 2, 2, 1, 1, 0, 1, 1, 1, 1, 1, 0, 0, 0, 0, 0, 0, 0, 0)

START = 0
ORDER = 10
FIRST_ACT = 11
LAST_CHANGE = 14


def told(watch, name, given):
    if name == "rule":
        return rule(watch, given[0], given[1])
    if name == "like":
        return like(watch, given[0], given[1])
    if name == "against":
        return against(watch, given[0], given[1])
    if name == "both":
        return both(watch, given[0], given[1], given[2])
    if name == "either":
        return either(watch, given[0], given[1], given[2])
    if name == "always":
        return always(watch, given[0], given[1])
    if name == "flag":
        return flag(watch, given[0], given[1])
    if name == "hold":
        return hold(watch, given[0])
    if name == "free":
        return free(watch, given[0])
    return order(watch, given)


def acted(watch, name, k):
    if name == "step":
        return step(watch, k)
    if name == "pass_on":
        return pass_on(watch, k)
    if name == "act":
        return act(watch, k)
    return settle(watch, k)


def asked(watch, name, given):
    if name == "rule_of":
        return rule_of(watch, given[0])
    if name == "seen":
        return seen(watch)
    if name == "round_of":
        return round_of(watch)
    if name == "rounds":
        return rounds(watch)
    if name == "before":
        return before(watch)
    if name == "gardens":
        return gardens(watch)
    if name == "basin":
        return basin(watch)
    if name == "kinds":
        return kinds(watch)
    return even(watch)


def changed(watch, number, given):
    ahead = watch.picture()
    if number < FIRST_ACT:
        answer = told(watch, NAMES[number], given)
    else:
        answer = acted(watch, NAMES[number], given[0])
    if answer[0] >= 0:
        watch.keep_change(ahead)
    return answer


def answered(watch, number, given):
    if number == START:
        return start(watch, given[0])
    if number <= LAST_CHANGE:
        return changed(watch, number, given)
    return asked(watch, NAMES[number], given)


def answers(calls):
    watch = Watch()
    out = []
    place = 0
    while place < len(calls):
        number = calls[place]
        place += 1
        size = SIZES[number]
        if number == ORDER:
            size = calls[place]
            place += 1
        answer = answered(watch, number, calls[place:place + size])
        place += size
        out.append(len(answer))
        out.extend(answer)
    return out
