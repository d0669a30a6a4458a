"""What the tests share: calls by name, and a second telling of the document.

The model below is slow and plain on purpose: states are tuples of booleans and
rules are functions kept as dicts, so that it shares no code and no form with
the program.
"""

from itertools import permutations, product

from watchtowers.towers import answers

NUMBERS = {
    name: number
    for number, name in enumerate(
        "start rule like against both either always flag hold free order step pass_on act settle "
        "rule_of seen round_of rounds before gardens basin kinds even".split()
    )
}
GREATEST = 4294967295


def flat(calls):
    row = []
    for call in calls:
        name, given = call[0], list(call[1:])
        if name == "order":
            given = [len(given)] + given
        row += [NUMBERS[name]] + given
    return row


def split(row):
    found, place = [], 0
    while place < len(row):
        size = row[place]
        assert size >= 1 and place + 1 + size <= len(row), row
        found.append(row[place + 1:place + 1 + size])
        place += 1 + size
    return found


def ask(*calls):
    """The answers of these calls, one list for each."""
    return split(answers(flat(calls)))


def last(*calls):
    return ask(*calls)[-1]


def flags_to(n, state, now=0):
    """The calls that bring the flags by hand from the state now to this one."""
    return [("flag", j, (state >> j) & 1) for j in range(n) if ((state ^ now) >> j) & 1]


def set_up(rules, state=0, held=0):
    """The calls for so many towers with these rules, flags and held ones."""
    n = len(rules)
    calls = [("start", n)] + [("rule", j, r) for j, r in enumerate(rules)]
    return calls + flags_to(n, state) + [("hold", j) for j in range(n) if (held >> j) & 1]


class Model:
    """What the document says, told a second time."""

    def __init__(self):
        self.n = 0

    def begin(self, n):
        self.n = n
        self.all = [tuple(reversed(s)) for s in product((False, True), repeat=n)]
        self.flags = (False,) * n
        self.rules = [self.by(lambda s, j=j: s[j]) for j in range(n)]
        self.held = [False] * n
        self.order = list(range(n))

    def by(self, says):
        return {s: says(s) for s in self.all}

    @staticmethod
    def number(flags):
        return sum(2 ** j for j, up in enumerate(flags) if up)

    def rule_number(self, j):
        return sum(2 ** self.number(s) for s in self.all if self.rules[j][s])

    def says(self, j, s):
        return self.flags[j] if self.held[j] else self.rules[j][s]

    def at_once(self, s):
        return tuple(self.says(j, s) for j in range(self.n))

    def alone(self, s, j):
        return s[:j] + (self.says(j, s),) + s[j + 1:]

    def trail(self, s):
        """The way of s, and its round from where it comes there."""
        gone = [s]
        while self.at_once(gone[-1]) not in gone:
            gone.append(self.at_once(gone[-1]))
        first = gone.index(self.at_once(gone[-1]))
        return gone[:first], gone[first:]

    def lifted(self, j, i):
        return any(
            not s[i] and not self.says(j, s) and self.says(j, s[:i] + (True,) + s[i + 1:]) for s in self.all
        )

    def lowered(self, j, i):
        return any(
            not s[i] and self.says(j, s) and not self.says(j, s[:i] + (True,) + s[i + 1:]) for s in self.all
        )

    def kind(self, j, i):
        return int(self.lifted(j, i)) + 2 * int(self.lowered(j, i))

    def rings(self):
        """All rings, the shorter first, those as long in order, each with its parities."""
        found = []
        for size in range(1, self.n + 1):
            for ring in permutations(range(self.n), size):
                pairs = [(ring[(at + 1) % size], ring[at]) for at in range(size)]
                ways = [
                    [low for low, there in ((0, self.lifted(*pair)), (1, self.lowered(*pair))) if there]
                    for pair in pairs
                ]
                if ring[0] == min(ring) and all(ways):
                    found.append((list(ring), {sum(taken) % 2 for taken in product(*ways)}))
        return found

    # The calls.

    def call(self, name, *given):
        return getattr(self, "call_" + name)(*given)

    def call_start(self, n):
        if not 1 <= n <= 4:
            return [-22]
        self.begin(n)
        return [0]

    def told(self, towers, says):
        if any(j >= self.n for j in towers):
            return [-2]
        was = self.rule_number(towers[0])
        self.rules[towers[0]] = self.by(says)
        return [was]

    def call_rule(self, j, r):
        if j < self.n and r >= 2 ** 2 ** self.n:
            return [-22]
        return self.told([j], lambda s: r // 2 ** self.number(s) % 2 == 1)

    def call_like(self, j, i):
        return self.told([j, i], lambda s: s[i])

    def call_against(self, j, i):
        return self.told([j, i], lambda s: not s[i])

    def call_both(self, j, i, k):
        return self.told([j, i, k], lambda s: s[i] and s[k])

    def call_either(self, j, i, k):
        return self.told([j, i, k], lambda s: s[i] or s[k])

    def call_always(self, j, v):
        if j < self.n and v > 1:
            return [-22]
        return self.told([j], lambda s: v == 1)

    def call_flag(self, j, v):
        if j >= self.n:
            return [-2]
        if v > 1:
            return [-22]
        if self.flags[j] == bool(v):
            return [-17]
        self.flags = self.flags[:j] + (bool(v),) + self.flags[j + 1:]
        return [sum(self.flags)]

    def hold_or_free(self, j, held):
        if j >= self.n:
            return [-2]
        if self.held[j] == held:
            return [-17]
        self.held[j] = held
        return [sum(self.held)]

    def call_hold(self, j):
        return self.hold_or_free(j, True)

    def call_free(self, j):
        return self.hold_or_free(j, False)

    def call_order(self, *towers):
        if towers not in permutations(range(self.n)):
            return [-22]
        self.order = list(towers)
        return [0]

    def call_step(self, k):
        if not 1 <= k <= 100:
            return [-22]
        for _ in range(k):
            self.flags = self.at_once(self.flags)
        return [self.number(self.flags)]

    def call_pass_on(self, k):
        if not 1 <= k <= 100:
            return [-22]
        for j in self.order * k:
            self.flags = self.alone(self.flags, j)
        return [self.number(self.flags)]

    def call_act(self, j):
        if j >= self.n:
            return [-2]
        self.flags = self.alone(self.flags, j)
        return [self.number(self.flags)]

    def call_settle(self, k):
        if k > 100:
            return [-22]
        for done in range(k):
            others = [self.alone(self.flags, j) for j in range(self.n)]
            others = [s for s in others if s != self.flags]
            if not others:
                return [done, self.number(self.flags)]
            self.flags = others[0]
        return [k, self.number(self.flags)]

    def call_rule_of(self, j):
        return [self.rule_number(j)] if j < self.n else [-2]

    def call_seen(self):
        return [self.number(self.flags), self.number(self.at_once(self.flags))]

    def call_round_of(self):
        way, ring = self.trail(self.flags)
        return [len(way), len(ring)] + [self.number(s) for s in ring]

    def call_rounds(self):
        found = {min(map(self.number, self.trail(s)[1])): len(self.trail(s)[1]) for s in self.all}
        return [len(found)] + [part for pair in sorted(found.items()) for part in pair]

    def call_before(self):
        found = [self.number(s) for s in self.all if self.at_once(s) == self.flags]
        return [len(found)] + sorted(found)

    def call_gardens(self):
        found = set(self.all) - {self.at_once(s) for s in self.all}
        return [len(found)] + sorted(map(self.number, found))

    def call_basin(self):
        here = set(self.trail(self.flags)[1])
        return [sum(set(self.trail(s)[1]) == here for s in self.all)]

    def call_kinds(self):
        found = [self.kind(j, i) for j in range(self.n) for i in range(self.n)]
        return [sum(kind > 0 for kind in found)] + found

    def call_even(self):
        for ring, parities in self.rings():
            if 0 in parities:
                return [len(ring)] + ring
        return [-33]
