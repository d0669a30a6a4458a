"""The object on which the calls are made."""

from watchtowers.states import always_rule, is_up, like_rule, up_count

CHANGES_KEPT = 20


class Watch:
    def __init__(self):
        # No tower at all till a start is answered 0: only start comes before.
        self.begin(0)

    def begin(self, n):
        self.n = n
        self.state = 0
        self.held = 0
        self.rules = [like_rule(n, j) for j in range(n)]
        self.order = list(range(n))
        self.steps = 0
        self.passes = 0
        self.acts = 0
        self.turns = 0
        self.past = []
        self.undone = []

    def has_tower(self, j):
        return j < self.n

    def rules_now(self):
        # A held flag never moves by an act, so these hold through a whole call.
        rules = []
        for j in range(self.n):
            if is_up(self.held, j):
                rules.append(always_rule(self.n, 1 if is_up(self.state, j) else 0))
            else:
                rules.append(self.rules[j])
        return rules

    def go_to(self, state):
        # A whole call counts at once: flags that are back as they were don't count.
        self.turns += up_count(self.state ^ state)
        self.state = state

    def picture(self):
        sums = (self.steps, self.passes, self.acts, self.turns)
        return (self.state, self.held, tuple(self.rules), tuple(self.order), sums)

    def keep_change(self, ahead):
        self.past.append(ahead)
        if len(self.past) > CHANGES_KEPT:
            self.past.pop(0)
        self.undone = []
