"""What was done last taken back and done again, the sums and the state (point 10)."""

from watchtowers.refusals import NO_CHANGE


def back(watch):
    if len(watch.past) == 0:
        return [NO_CHANGE]
    watch.take_back()
    return [len(watch.past)]


def again(watch):
    if len(watch.undone) == 0:
        return [NO_CHANGE]
    watch.do_again()
    return [len(watch.undone)]


def sums(watch):
    return [watch.steps, watch.passes, watch.acts, watch.turns]


def state(watch):
    return [watch.n, watch.state, watch.held, len(watch.past), len(watch.undone)] + watch.order
