"""What the tests share: calls by name, and a second telling of the document.

The model below is slow and plain on purpose: states are tuples of booleans and
rules are functions kept as dicts, so that it shares no code and no form with
the program.
"""

from copy import copy
from itertools import combinations, permutations, product
from random import Random

from watchtowers.towers import answers

NUMBERS = {
    name: number
    for number, name in enumerate(
        "start rule like against both either always flag hold free order step pass_on act settle "
        "rule_of seen round_of rounds before gardens basin kinds even odd layers rests sweeps best brings moves "
        "reach far traps may cut cut_even fewest comes rises least greatest join meet back again sums state".split()
    )
}
CHANGES = [name for name, number in NUMBERS.items() if 1 <= number <= 14]
GREATEST = 4294967295

# Every call that takes no number and changes nothing.
LOOKS = [
    (name,) for name, number in NUMBERS.items()
    if number > 15 and name not in ("far", "comes", "join", "meet", "back", "again")
]


def flat(calls):
    row = []
    for call in calls:
        name, given = call[0], list(call[1:])
        if name == "order":
            given = [len(given)] + given
        row += [NUMBERS[name]] + given
    return row


def split(row):
    found, place = [], 0
    while place < len(row):
        size = row[place]
        assert size >= 1 and place + 1 + size <= len(row), row
        found.append(row[place + 1:place + 1 + size])
        place += 1 + size
    return found


def ask(*calls):
    """The answers of these calls, one list for each."""
    return split(answers(flat(calls)))


def last(*calls):
    return ask(*calls)[-1]


def flags_to(n, state, now=0):
    """The calls that bring the flags by hand from the state now to this one."""
    return [("flag", j, (state >> j) & 1) for j in range(n) if ((state ^ now) >> j) & 1]


def set_up(rules, state=0, held=0):
    """The calls for so many towers with these rules, flags and held ones."""
    n = len(rules)
    calls = [("start", n)] + [("rule", j, r) for j, r in enumerate(rules)]
    return calls + flags_to(n, state) + [("hold", j) for j in range(n) if (held >> j) & 1]


def rule_by(n, says):
    """The number of the rule that says so of each list of flags, 0 and 1."""
    return sum(1 << s for s in range(1 << n) if says([(s >> j) & 1 for j in range(n)]))


def plain_rule(source, n):
    """A rule that looks at few towers, so that rings are neither always nor never there."""
    looked = source.sample(range(n), source.randrange(3))
    says = {flags: source.randrange(2) for flags in product((0, 1), repeat=len(looked))}
    return rule_by(n, lambda flags: says[tuple(flags[i] for i in looked)])


def rising_rule(source, n):
    """Up just if all of some towers are up, or all of some others."""
    ways = [source.sample(range(n), source.randrange(1, n + 1)) for _ in range(source.randrange(4))]
    return rule_by(n, lambda flags: any(all(flags[i] for i in way) for way in ways))


def any_rule(source, n):
    return source.randrange(1 << (1 << n))


def some_rules(seed, many):
    """So many rows of rules of three and of four towers: plain ones, rising ones and any."""
    source = Random(seed)
    for n in (3, 4):
        for place in range(many):
            kind = (plain_rule, rising_rule, plain_rule, any_rule)[place % 4]
            yield tuple(kind(source, n) for _ in range(n))


def all_looks(n):
    """All that can be asked of so many towers, with each number that isn't refused for itself."""
    states = range(1 << n)
    calls = LOOKS + [("rule_of", j) for j in range(n)] + [("far", x) for x in states]
    calls = calls + [("comes", h, v) for h in states for v in states if v & h == v]
    return calls + [(name, x, y) for name in ("join", "meet") for x in states for y in states]


def under(s, t):
    return all(b or not a for a, b in zip(s, t))


class Model:
    """What the document says, told a second time.

    Nothing is kept to be put back: to take a change back, all others that were
    made are made anew from the start.
    """

    def __init__(self):
        self.n = 0

    def begin(self, n):
        self.as_at_first(n)
        self.made, self.taken_back, self.more_back = [], [], 0

    def as_at_first(self, n):
        self.n = n
        self.all = [tuple(reversed(s)) for s in product((False, True), repeat=n)]
        self.flags = (False,) * n
        self.rules = [self.by(lambda s, j=j: s[j]) for j in range(n)]
        self.held = [False] * n
        self.order = list(range(n))
        self.sums = [0, 0, 0, 0]

    def by(self, says):
        return {s: says(s) for s in self.all}

    @staticmethod
    def number(flags):
        return sum(2 ** j for j, up in enumerate(flags) if up)

    def rule_number(self, j):
        return sum(2 ** self.number(s) for s in self.all if self.rules[j][s])

    def says(self, j, s):
        return self.flags[j] if self.held[j] else self.rules[j][s]

    def at_once(self, s):
        return tuple(self.says(j, s) for j in range(self.n))

    def alone(self, s, j):
        return s[:j] + (self.says(j, s),) + s[j + 1:]

    def trail(self, s):
        """The way of s, and its round from where it comes there."""
        gone = [s]
        while self.at_once(gone[-1]) not in gone:
            gone.append(self.at_once(gone[-1]))
        first = gone.index(self.at_once(gone[-1]))
        return gone[:first], gone[first:]

    def lifted(self, j, i):
        return any(
            not s[i] and not self.says(j, s) and self.says(j, s[:i] + (True,) + s[i + 1:]) for s in self.all
        )

    def lowered(self, j, i):
        return any(
            not s[i] and self.says(j, s) and not self.says(j, s[:i] + (True,) + s[i + 1:]) for s in self.all
        )

    def kind(self, j, i):
        return int(self.lifted(j, i)) + 2 * int(self.lowered(j, i))

    def rings(self):
        """All rings, the shorter first, those as long in order, each with its parities."""
        found = []
        for size in range(1, self.n + 1):
            for ring in permutations(range(self.n), size):
                pairs = [(ring[(at + 1) % size], ring[at]) for at in range(size)]
                ways = [
                    [low for low, there in ((0, self.lifted(*pair)), (1, self.lowered(*pair))) if there]
                    for pair in pairs
                ]
                if ring[0] == min(ring) and all(ways):
                    found.append((list(ring), {sum(taken) % 2 for taken in product(*ways)}))
        return found

    def told_as(self, states):
        found = sorted(self.number(s) for s in states)
        return [len(found)] + found

    def at_rest(self):
        return [s for s in self.all if self.at_once(s) == s]

    def passed(self, s, order):
        for j in order:
            s = self.alone(s, j)
        return s

    def within(self, s):
        """By how many changes of one: the states that are come to by so many or fewer."""
        found = [{s}]
        while len(found) == 1 or found[-1] != found[-2]:
            found.append(found[-1] | {self.alone(t, j) for t in found[-1] for j in range(self.n)})
        return found

    def come_to(self, s):
        return self.within(s)[-1]

    def were_held(self, flags):
        """Another model, in which these towers are held with these flags."""
        other = copy(self)
        other.held = [held or j in flags for j, held in enumerate(self.held)]
        other.flags = tuple(flags.get(j, up) for j, up in enumerate(self.flags))
        return other

    def settled(self):
        """The one state to which all settle, None if they don't."""
        ends = {self.trail(s)[1][0] for s in self.all}
        end = ends.pop()
        return end if not ends and self.at_once(end) == end else None

    def settles_all(self, towers):
        ways = product((False, True), repeat=len(towers))
        return all(self.were_held(dict(zip(towers, flags))).settled() is not None for flags in ways)

    def smallest(self, good):
        for size in range(self.n + 1):
            found = [sum(2 ** j for j in towers) for towers in combinations(range(self.n), size) if good(towers)]
            if found:
                return [size, min(found)]

    def do_rise(self):
        return all(under(self.at_once(s), self.at_once(t)) for s in self.all for t in self.all if under(s, t))

    def make(self, name, *given):
        """A change, and what it adds to the sums."""
        ahead = self.flags
        answer = getattr(self, "call_" + name)(*given)
        if answer[0] >= 0 and name in ("step", "pass_on", "act", "settle"):
            self.sums[0] += given[0] if name == "step" else 0
            self.sums[1] += given[0] if name == "pass_on" else 0
            self.sums[2] += {"act": 1, "settle": answer[0]}.get(name, 0)
            self.sums[3] += sum(a != b for a, b in zip(ahead, self.flags))
        return answer

    # The calls.

    def call(self, name, *given):
        if name not in CHANGES:
            return getattr(self, "call_" + name)(*given)
        answer = self.make(name, *given)
        if answer[0] >= 0:
            self.made.append((name, *given))
            self.more_back = min(20, self.more_back + 1)
            self.taken_back = []
        return answer

    def call_start(self, n):
        if not 1 <= n <= 4:
            return [-22]
        self.begin(n)
        return [0]

    def told(self, towers, says):
        if any(j >= self.n for j in towers):
            return [-2]
        was = self.rule_number(towers[0])
        self.rules[towers[0]] = self.by(says)
        return [was]

    def call_rule(self, j, r):
        if j < self.n and r >= 2 ** 2 ** self.n:
            return [-22]
        return self.told([j], lambda s: r // 2 ** self.number(s) % 2 == 1)

    def call_like(self, j, i):
        return self.told([j, i], lambda s: s[i])

    def call_against(self, j, i):
        return self.told([j, i], lambda s: not s[i])

    def call_both(self, j, i, k):
        return self.told([j, i, k], lambda s: s[i] and s[k])

    def call_either(self, j, i, k):
        return self.told([j, i, k], lambda s: s[i] or s[k])

    def call_always(self, j, v):
        if j < self.n and v > 1:
            return [-22]
        return self.told([j], lambda s: v == 1)

    def call_flag(self, j, v):
        if j >= self.n:
            return [-2]
        if v > 1:
            return [-22]
        if self.flags[j] == bool(v):
            return [-17]
        self.flags = self.flags[:j] + (bool(v),) + self.flags[j + 1:]
        return [sum(self.flags)]

    def hold_or_free(self, j, held):
        if j >= self.n:
            return [-2]
        if self.held[j] == held:
            return [-17]
        self.held[j] = held
        return [sum(self.held)]

    def call_hold(self, j):
        return self.hold_or_free(j, True)

    def call_free(self, j):
        return self.hold_or_free(j, False)

    def call_order(self, *towers):
        if towers not in permutations(range(self.n)):
            return [-22]
        self.order = list(towers)
        return [0]

    def call_step(self, k):
        if not 1 <= k <= 100:
            return [-22]
        for _ in range(k):
            self.flags = self.at_once(self.flags)
        return [self.number(self.flags)]

    def call_pass_on(self, k):
        if not 1 <= k <= 100:
            return [-22]
        for j in self.order * k:
            self.flags = self.alone(self.flags, j)
        return [self.number(self.flags)]

    def call_act(self, j):
        if j >= self.n:
            return [-2]
        self.flags = self.alone(self.flags, j)
        return [self.number(self.flags)]

    def call_settle(self, k):
        if k > 100:
            return [-22]
        for done in range(k):
            others = [self.alone(self.flags, j) for j in range(self.n)]
            others = [s for s in others if s != self.flags]
            if not others:
                return [done, self.number(self.flags)]
            self.flags = others[0]
        return [k, self.number(self.flags)]

    def call_rule_of(self, j):
        return [self.rule_number(j)] if j < self.n else [-2]

    def call_seen(self):
        return [self.number(self.flags), self.number(self.at_once(self.flags))]

    def call_round_of(self):
        way, ring = self.trail(self.flags)
        return [len(way), len(ring)] + [self.number(s) for s in ring]

    def call_rounds(self):
        found = {min(map(self.number, self.trail(s)[1])): len(self.trail(s)[1]) for s in self.all}
        return [len(found)] + [part for pair in sorted(found.items()) for part in pair]

    def call_before(self):
        found = [self.number(s) for s in self.all if self.at_once(s) == self.flags]
        return [len(found)] + sorted(found)

    def call_gardens(self):
        found = set(self.all) - {self.at_once(s) for s in self.all}
        return [len(found)] + sorted(map(self.number, found))

    def call_basin(self):
        here = set(self.trail(self.flags)[1])
        return [sum(set(self.trail(s)[1]) == here for s in self.all)]

    def call_kinds(self):
        found = [self.kind(j, i) for j in range(self.n) for i in range(self.n)]
        return [sum(kind > 0 for kind in found)] + found

    def call_even(self):
        for ring, parities in self.rings():
            if 0 in parities:
                return [len(ring)] + ring
        return [-33]

    def call_odd(self):
        for ring, parities in self.rings():
            if 1 in parities:
                return [len(ring)] + ring
        return [-33]

    def layer(self, j):
        return max([self.layer(i) + 1 for i in range(self.n) if self.kind(j, i)], default=0)

    def call_layers(self):
        if self.rings():
            return [-33]
        found = [self.layer(j) for j in range(self.n)]
        return [len(set(found))] + found

    def call_rests(self):
        return self.told_as(self.at_rest())

    def call_sweeps(self):
        gone = [self.flags]
        while self.passed(gone[-1], self.order) not in gone:
            gone.append(self.passed(gone[-1], self.order))
        found = [[passes, self.number(s)] for passes, s in enumerate(gone) if s in self.at_rest()]
        return found[0] if found else [-33]

    def call_best(self):
        rests = self.at_rest()
        found = [
            list(order) for order in permutations(range(self.n))
            if all(self.passed(s, order) in rests for s in self.all)
        ]
        return [len(found)] + found[0] if found else [-33]

    def call_brings(self):
        return self.told_as({self.passed(self.flags, order) for order in permutations(range(self.n))})

    def call_moves(self):
        found = [j for j in range(self.n) if self.says(j, self.flags) != self.flags[j]]
        return [len(found)] + found

    def call_reach(self):
        return self.told_as(self.come_to(self.flags))

    def call_far(self, x):
        if x >= 2 ** self.n:
            return [-22]
        found = [few for few, states in enumerate(self.within(self.flags)) if self.all[x] in states]
        return found[:1] or [-33]

    def call_traps(self):
        come_to = {s: self.come_to(s) for s in self.all}
        found = {frozenset(states) for states in come_to.values() if all(come_to[s] == states for s in states)}
        pairs = sorted((min(map(self.number, states)), len(states)) for states in found)
        return [len(pairs)] + [part for pair in pairs for part in pair]

    def call_may(self):
        rests = set(self.at_rest())
        if all(self.come_to(s) & rests for s in self.come_to(self.flags)):
            return [2]
        return [1 if self.come_to(self.flags) & rests else 0]

    def call_cut(self):
        rings = [ring for ring, _ in self.rings()]
        return self.smallest(lambda towers: all(set(towers) & set(ring) for ring in rings))

    def call_cut_even(self):
        rings = [ring for ring, parities in self.rings() if 0 in parities]
        return self.smallest(lambda towers: all(set(towers) & set(ring) for ring in rings))

    def call_fewest(self):
        return self.smallest(self.settles_all)

    def call_comes(self, h, v):
        if h >= 2 ** self.n or v >= 2 ** self.n or not under(self.all[v], self.all[h]):
            return [-22]
        end = self.were_held({j: self.all[v][j] for j in range(self.n) if self.all[h][j]}).settled()
        return [-33] if end is None else [self.number(end)]

    def call_rises(self):
        return [int(self.do_rise())]

    def end_at_rest(self, begun, ahead):
        """The state at rest that stands so to all others, and how few steps bring it."""
        if not self.do_rise():
            return [-16]
        end, = [s for s in self.at_rest() if all(ahead(s, t) for t in self.at_rest())]
        gone = sum(self.trail(begun), [])
        return [self.number(end), gone.index(end)]

    def call_least(self):
        return self.end_at_rest((False,) * self.n, under)

    def call_greatest(self):
        return self.end_at_rest((True,) * self.n, lambda s, t: under(t, s))

    def of_two(self, x, y, ahead):
        if x >= 2 ** self.n or y >= 2 ** self.n:
            return [-22]
        if not self.do_rise():
            return [-16]
        first, second = self.all[x], self.all[y]
        if first not in self.at_rest() or second not in self.at_rest():
            return [-33]
        found = [s for s in self.at_rest() if ahead(first, s) and ahead(second, s)]
        end, = [s for s in found if all(ahead(s, t) for t in found)]
        return [self.number(end)]

    def call_join(self, x, y):
        return self.of_two(x, y, under)

    def call_meet(self, x, y):
        return self.of_two(x, y, lambda s, t: under(t, s))

    def call_back(self):
        if self.more_back == 0:
            return [-6]
        self.taken_back.append(self.made.pop())
        self.more_back -= 1
        self.as_at_first(self.n)
        for change in self.made:
            self.make(*change)
        return [self.more_back]

    def call_again(self):
        if not self.taken_back:
            return [-6]
        self.made.append(self.taken_back.pop())
        self.more_back += 1
        self.make(*self.made[-1])
        return [len(self.taken_back)]

    def call_sums(self):
        return list(self.sums)

    def call_state(self):
        held = self.number(self.held)
        return [self.n, self.number(self.flags), held, self.more_back, len(self.taken_back)] + self.order
