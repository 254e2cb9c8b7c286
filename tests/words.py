"""The document's words, said once more with sets of facts and by going through all that may be."""

import itertools

from calling import GREATEST

NAMES = [
    "begin", "rule", "deed", "drop", "deed_is", "let", "does", "reach", "together", "keeps", "broken", "fewest",
    "broken_at", "clash", "clashes", "free", "most_free", "asked", "alone", "closed", "open_states", "state",
]
# What the whole numbers of each call are, ahead of together's row.
TOLD = [
    "f", "r", "dddd", "i", "i", "s", "si", "s", "s", "k", "k", "", "ks", "ii", "", "x", "", "", "i", "", "", "",
]


class Numbers:
    """A row of numbers that is the same each time, so that a test that fails fails again."""

    def __init__(self, first):
        self.now = first

    def below(self, end):
        self.now = (self.now * 6364136223846793005 + 1442695040888963407) % 2 ** 64
        return (self.now >> 33) % end


def as_set(number):
    return frozenset(f for f in range(number.bit_length()) if number >> f & 1)


def as_number(facts):
    return sum(2 ** f for f in facts)


def chosen_deed(numbers, facts):
    """More facts make a deed rarer to be done: two of three deeds need few."""
    need = be = on = off = 0
    for f in range(facts):
        if numbers.below(3) == 0:
            need += 2 ** f
            be += 2 ** f * numbers.below(2)
        change = numbers.below(4)
        if change == 0:
            on += 2 ** f
        if change == 1:
            off += 2 ** f
    return need, be, on, off


def chosen_rule(numbers, facts):
    """Few states that aren't let leave copies more room to come to different states."""
    states = 2 ** 2 ** facts - 1
    for forbidden in range(1 + numbers.below(4)):
        states &= ~(1 << numbers.below(2 ** facts))
    return states


def leap(facts, s, y):
    """The deed that needs all facts and leads from s alone, to y."""
    return 2 ** facts - 1, s, y & ~s, s & ~y


def chosen_leaps(numbers, facts, count):
    """A rule and deeds that break it often: all deeds begin at one state, and where they end is let."""
    s = numbers.below(2 ** facts)
    # Where each deed changes one fact alone and all else is let, three or four copies may be the fewest.
    second = numbers.below(2)
    ends = [s ^ (1 << numbers.below(facts) | second << numbers.below(facts)) for i in range(count)]
    rarely = (2, 8, 1000)[numbers.below(3)]
    states = sum(2 ** y for y in range(2 ** facts) if y in [s, *ends] or numbers.below(rarely) != 0)
    joined = s
    for y in ends:
        joined = s ^ (joined ^ s | y ^ s)
    if joined not in [s, *ends]:
        states &= ~(1 << joined)
    return states, [leap(facts, s, y) for y in ends]


def chosen_object(numbers, facts, count):
    if numbers.below(2) == 0:
        return chosen_leaps(numbers, facts, count)
    return chosen_rule(numbers, facts), [chosen_deed(numbers, facts) for i in range(count)]


class Words:
    def __init__(self, facts, states, deeds):
        self.facts = facts
        self.states = [as_set(s) for s in range(2 ** facts)]
        self.let = [s for s in self.states if states >> as_number(s) & 1]
        self.deeds = [tuple(as_set(part) for part in told) for told in deeds]

    def does(self, s, told):
        need, be, on, off = told
        if {f for f in s if f in need} != be:
            return -6
        after = frozenset(f for f in s | on if f not in off)
        return as_number(after) if after in self.let else -33

    def reach(self, s, deeds=None):
        found = {s}
        while True:
            more = {as_set(y) for x in found for told in (self.deeds if deeds is None else deeds)
                    for y in [self.does(x, told)] if y >= 0} - found
            if not more:
                return sorted(as_number(x) for x in found)
            found |= more

    def together(self, s, row):
        changed = frozenset().union(*[s.symmetric_difference(y) for y in row])
        return s.symmetric_difference(changed)

    def broken_at(self, k, s):
        for row in itertools.combinations_with_replacement(self.reach(s), k):
            joined = self.together(s, [as_set(y) for y in row])
            if joined not in self.let:
                return [as_number(joined), *row]
        return [-33]

    def broken(self, k):
        for s in self.let:
            found = self.broken_at(k, s)
            if found != [-33]:
                return [as_number(s), *found[1:], found[0]]
        return [-33]

    def fewest(self):
        """Also with one copy more than there are facts, so that 'however many' isn't only taken on trust."""
        kept = [self.kept_by(k, self.deeds) for k in range(1, self.facts + 2)]
        return kept.index(False) + 1 if False in kept else -33

    def kept_by(self, k, deeds):
        for s in self.let:
            changes = [s.symmetric_difference(as_set(y)) for y in self.reach(s, deeds)]
            together = {frozenset()}
            for copy in range(k):
                together = {changed | more for changed in together for more in changes}
            if any(s.symmetric_difference(changed) not in self.let for changed in together):
                return False
        return True

    def free(self, x):
        return self.kept_by(self.facts, [self.deeds[i] for i in sorted(as_set(x))])

    def free_sets(self):
        return [x for x in range(2 ** len(self.deeds)) if self.free(x)]

    def most_free(self):
        sets = [as_set(x) for x in self.free_sets()]
        return [as_number(x) for x in sets if not any(x < other for other in sets)]

    def asked(self):
        every = frozenset(range(len(self.deeds)))
        sets = [every - as_set(x) for x in self.free_sets()]
        fewest = min(len(x) for x in sets)
        return [fewest, *sorted(as_number(x) for x in sets if len(x) == fewest)]

    def clash(self, i, j):
        for s in self.let:
            came = [self.does(s, self.deeds[i]), self.does(s, self.deeds[j])]
            if min(came) >= 0 and self.together(s, [as_set(y) for y in came]) not in self.let:
                return as_number(s)
        return -33

    def clashes(self):
        twos = itertools.combinations_with_replacement(range(len(self.deeds)), 2)
        return [two for two in twos if self.clash(*two) >= 0]

    def opening(self):
        for s in self.let:
            for y, z in itertools.combinations_with_replacement(self.let, 2):
                if self.together(s, [y, z]) not in self.let:
                    return [as_number(s), as_number(y), as_number(z)]
        return [-33]


class Refused(Exception):
    pass


def refuse_if(so, number):
    if so:
        raise Refused(number)


class Line:
    """An object and the calls on it, with the refusals in the order in which the document tells them."""

    def __init__(self):
        self.facts = None
        self.states = None
        self.deeds = None

    def answer(self, call):
        try:
            refuse_if(self.facts is None and call[0] != 0, -61)
            if call[0] == 8:
                return self.together(call[1], call[3:])
            return getattr(self, NAMES[call[0]])(*call[1:])
        except Refused as refused:
            return [refused.args[0]]

    def words(self):
        return Words(self.facts, self.states, self.deeds)

    def is_deed(self, *told):
        refuse_if(any(i >= len(self.deeds) for i in told), -2)

    def is_state(self, *told):
        refuse_if(any(s >= 2 ** self.facts for s in told), -22)

    def is_k(self, k):
        refuse_if(k not in (1, 2, 3, 4), -22)

    def begin(self, facts):
        refuse_if(facts not in (1, 2, 3, 4), -22)
        self.facts, self.states, self.deeds = facts, 2 ** 2 ** facts - 1, []
        return [0]

    def rule(self, states):
        refuse_if(states >= 2 ** 2 ** self.facts, -22)
        self.states = states
        return [0]

    def deed(self, *told):
        need, be, on, off = [as_set(part) for part in told]
        refuse_if(max(told) >= 2 ** self.facts or not be <= need or on & off, -22)
        refuse_if(len(self.deeds) == 6, -28)
        self.deeds = [*self.deeds, told]
        return [len(self.deeds) - 1]

    def drop(self, i):
        self.is_deed(i)
        self.deeds = self.deeds[:i] + self.deeds[i + 1:]
        return [len(self.deeds)]

    def deed_is(self, i):
        self.is_deed(i)
        return [4, *self.deeds[i]]

    def let(self, s):
        self.is_state(s)
        return [int(as_set(s) in self.words().let)]

    def does(self, s, i):
        self.is_deed(i)
        self.is_state(s)
        return [self.words().does(as_set(s), self.words().deeds[i])]

    def reach(self, s):
        self.is_state(s)
        found = self.words().reach(as_set(s))
        return [len(found), *found]

    def together(self, s, row):
        self.is_state(s, *row)
        return [as_number(self.words().together(as_set(s), [as_set(y) for y in row]))]

    def keeps(self, k):
        self.is_k(k)
        return [int(self.words().broken(k) == [-33])]

    def broken(self, k):
        self.is_k(k)
        return self.words().broken(k)

    def fewest(self):
        return [self.words().fewest()]

    def broken_at(self, k, s):
        self.is_k(k)
        self.is_state(s)
        refuse_if(as_set(s) not in self.words().let, -6)
        return self.words().broken_at(k, as_set(s))

    def clash(self, i, j):
        self.is_deed(i, j)
        return [self.words().clash(i, j)]

    def clashes(self):
        twos = self.words().clashes()
        return [len(twos), *[i for two in twos for i in two]]

    def free(self, x):
        refuse_if(x >= 2 ** len(self.deeds), -22)
        return [int(self.words().free(x))]

    def most_free(self):
        found = self.words().most_free()
        return [len(found), *found]

    def asked(self):
        return self.words().asked()

    def alone(self, i):
        self.is_deed(i)
        return [int(self.words().free(2 ** i))]

    def closed(self):
        return [int(self.words().opening() == [-33])]

    def open_states(self):
        return self.words().opening()

    def state(self):
        return [self.facts, len(self.deeds), len(self.words().let)]


def chosen_number(numbers, kind, facts):
    """Mostly what may be told, now and then what just isn't any more, and now and then the greatest."""
    if numbers.below(25) == 0:
        return GREATEST
    beyond = numbers.below(12) == 0
    if kind == "f":
        return (0, 5)[numbers.below(2)] if beyond else 1 + numbers.below(4)
    if kind == "r":
        return 2 ** 2 ** facts + numbers.below(3) if beyond else chosen_rule(numbers, facts)
    if kind == "k":
        return (0, 5)[numbers.below(2)] if beyond else 1 + numbers.below(4)
    if kind == "i":
        return 6 if beyond else numbers.below(5)
    if kind == "x":
        return 64 if beyond else numbers.below(32)
    return 2 ** facts + numbers.below(3) if beyond else numbers.below(2 ** facts)


def chosen_call(numbers, number, facts):
    if number == 2 and numbers.below(6) != 0:
        return [2, *chosen_deed(numbers, facts)]
    call = [number, *[chosen_number(numbers, kind, facts) for kind in TOLD[number]]]
    if number == 8:
        row = [chosen_number(numbers, "s", facts) for y in range(numbers.below(5))]
        call += [len(row), *row]
    return call


def chosen_calls(numbers, count):
    """A list of calls: mostly a begin, a rule and deeds first, then calls of all kinds in any order."""
    facts = 1 + numbers.below(4)
    states, deeds = chosen_object(numbers, facts, numbers.below(7))
    calls = [[0, facts], [1, states], *[[2, *told] for told in deeds]] if numbers.below(8) != 0 else []
    while len(calls) < count:
        number = numbers.below(22)
        # A rule or a begin that comes too often leaves little to be told.
        if number in (0, 1) and numbers.below(3) != 0:
            number = 2
        call = chosen_call(numbers, number, facts)
        if number == 0 and 1 <= call[1] <= 4:
            facts = call[1]
        calls.append(call)
    return calls[:count]
