"""The calls on one object, one behind another, as one list of whole numbers."""

from watchtowers.acting import act, pass_on, seen, settle, step
from watchtowers.changing import again, back, state, sums
from watchtowers.holding import comes, cut, cut_even, fewest
from watchtowers.moving import far, may, moves, reach, traps
from watchtowers.resting import best, brings, rests, sweeps
from watchtowers.rising import greatest, join, least, meet, rises
from watchtowers.rounds import basin, before, gardens, round_of, rounds
from watchtowers.telling import (
    against, always, both, either, flag, free, hold, like, order, rule, rule_of, start,
)
from watchtowers.watch import Watch
from watchtowers.watching import even, kinds, layers, odd

# By its number each call's name, and how many whole numbers stand behind it;
# order has a row instead, which tells its own size.
NAMES = (
    "start", "rule", "like", "against", "both", "either", "always", "flag", "hold", "free",
    "order", "step", "pass_on", "act", "settle", "rule_of", "seen", "round_of", "rounds",
    "before", "gardens", "basin", "kinds", "even", "odd", "layers", "rests", "sweeps", "best",
    "brings", "moves", "reach", "far", "traps", "may", "cut", "cut_even", "fewest", "comes",
    "rises", "least", "greatest", "join", "meet", "back", "again", "sums", "state",
)
SIZES = (
    1, 2, 2, 2, 3, 3, 2, 2, 1, 1,
    0, 1, 1, 1, 1, 1, 0, 0, 0,
    0, 0, 0, 0, 0, 0, 0, 0, 0, 0,
    0, 0, 0, 1, 0, 0, 0, 0, 0, 2,
    0, 0, 0, 2, 2, 0, 0, 0, 0,
)

START = 0
ORDER = 10
LAST_TOLD = 10
LAST_CHANGE = 14
LAST_OF_ROUNDS = 21
LAST_OF_WATCHING = 25
LAST_OF_REST = 29
LAST_OF_MOVES = 34
LAST_OF_HELD = 38
LAST_OF_RISING = 43


def told(watch, name, given):
    if name == "rule":
        return rule(watch, given[0], given[1])
    if name == "like":
        return like(watch, given[0], given[1])
    if name == "against":
        return against(watch, given[0], given[1])
    if name == "both":
        return both(watch, given[0], given[1], given[2])
    if name == "either":
        return either(watch, given[0], given[1], given[2])
    if name == "always":
        return always(watch, given[0], given[1])
    if name == "flag":
        return flag(watch, given[0], given[1])
    if name == "hold":
        return hold(watch, given[0])
    if name == "free":
        return free(watch, given[0])
    return order(watch, given)


def acted(watch, name, k):
    if name == "step":
        return step(watch, k)
    if name == "pass_on":
        return pass_on(watch, k)
    if name == "act":
        return act(watch, k)
    return settle(watch, k)


def asked_of_rounds(watch, name, given):
    if name == "rule_of":
        return rule_of(watch, given[0])
    if name == "seen":
        return seen(watch)
    if name == "round_of":
        return round_of(watch)
    if name == "rounds":
        return rounds(watch)
    if name == "before":
        return before(watch)
    if name == "gardens":
        return gardens(watch)
    return basin(watch)


def asked_of_watching(watch, name):
    if name == "kinds":
        return kinds(watch)
    if name == "even":
        return even(watch)
    if name == "odd":
        return odd(watch)
    return layers(watch)


def asked_of_rest(watch, name):
    if name == "rests":
        return rests(watch)
    if name == "sweeps":
        return sweeps(watch)
    if name == "best":
        return best(watch)
    return brings(watch)


def asked_of_moves(watch, name, given):
    if name == "moves":
        return moves(watch)
    if name == "reach":
        return reach(watch)
    if name == "far":
        return far(watch, given[0])
    if name == "traps":
        return traps(watch)
    return may(watch)


def asked_of_held(watch, name, given):
    if name == "cut":
        return cut(watch)
    if name == "cut_even":
        return cut_even(watch)
    if name == "fewest":
        return fewest(watch)
    return comes(watch, given[0], given[1])


def asked_of_rising(watch, name, given):
    if name == "rises":
        return rises(watch)
    if name == "least":
        return least(watch)
    if name == "greatest":
        return greatest(watch)
    if name == "join":
        return join(watch, given[0], given[1])
    return meet(watch, given[0], given[1])


def recalled(watch, name):
    if name == "back":
        return back(watch)
    if name == "again":
        return again(watch)
    if name == "sums":
        return sums(watch)
    return state(watch)


def changed(watch, number, given):
    ahead = watch.picture()
    if number <= LAST_TOLD:
        answer = told(watch, NAMES[number], given)
    else:
        answer = acted(watch, NAMES[number], given[0])
    if answer[0] >= 0:
        watch.keep_change(ahead)
    return answer


def answered(watch, number, given):
    name = NAMES[number]
    if number == START:
        return start(watch, given[0])
    if number <= LAST_CHANGE:
        return changed(watch, number, given)
    if number <= LAST_OF_ROUNDS:
        return asked_of_rounds(watch, name, given)
    if number <= LAST_OF_WATCHING:
        return asked_of_watching(watch, name)
    if number <= LAST_OF_REST:
        return asked_of_rest(watch, name)
    if number <= LAST_OF_MOVES:
        return asked_of_moves(watch, name, given)
    if number <= LAST_OF_HELD:
        return asked_of_held(watch, name, given)
    if number <= LAST_OF_RISING:
        return asked_of_rising(watch, name, given)
    return recalled(watch, name)


def answers(calls):
    watch = Watch()
    out = []
    place = 0
    while place < len(calls):
        number = calls[place]
        place += 1
        size = SIZES[number]
        if number == ORDER:
            size = calls[place]
            place += 1
        answer = answered(watch, number, calls[place:place + size])
        place += size
        out.append(len(answer))
        out.extend(answer)
    return out
