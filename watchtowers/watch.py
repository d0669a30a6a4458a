"""The object on which the calls are made."""

from watchtowers.states import held_rules, like_rule, up_count

CHANGES_KEPT = 20


class Watch:
    def __init__(self):
        # No tower at all till a start is answered 0: only start comes before.
        self.begin(0)

    def begin(self, n):
        self.n = n
        self.state = 0
        self.held = 0
        self.rules = [like_rule(n, j) for j in range(n)]
        self.order = list(range(n))
        self.steps = 0
        self.passes = 0
        self.acts = 0
        self.turns = 0
        self.past = []
        self.undone = []

    def has_tower(self, j):
        return j < self.n

    def rules_now(self):
        # A held flag never moves by an act, so these hold through a whole call.
        return held_rules(self.rules, self.held, self.state)

    def go_to(self, state):
        # A whole call counts at once: flags that are back as they were don't count.
        self.turns += up_count(self.state ^ state)
        self.state = state

    def picture(self):
        sums = (self.steps, self.passes, self.acts, self.turns)
        return (self.state, self.held, tuple(self.rules), tuple(self.order), sums)

    def show(self, kept):
        self.state = kept[0]
        self.held = kept[1]
        self.rules = list(kept[2])
        self.order = list(kept[3])
        # A change that is taken back never was: its steps and acts go with it.
        self.steps = kept[4][0]
        self.passes = kept[4][1]
        self.acts = kept[4][2]
        self.turns = kept[4][3]

    def keep_change(self, ahead):
        self.past.append(ahead)
        if len(self.past) > CHANGES_KEPT:
            self.past.pop(0)
        self.undone = []

    def take_back(self):
        self.undone.append(self.picture())
        self.show(self.past.pop())

    def do_again(self):
        self.past.append(self.picture())
        self.show(self.undone.pop())
