"""What a rule lets, what deeds do, and what comes of copies put together: functions that keep nothing.

A set of facts, and so a state, is a number: 2 to the power of each fact's number, together.
A rule is a number likewise: 2 to the power of the number of each state that's let, together.
"""


class Deed:
    """Of the facts of need just those of be have to be so; those of on become so, those of off not so."""

    def __init__(self, need, be, on, off):
        self.need = need
        self.be = be
        self.on = on
        self.off = off


def how_many_states(facts):
    return 1 << facts


def all_states(facts):
    return (1 << how_many_states(facts)) - 1


def has_other_facts(facts, chosen):
    return chosen >= how_many_states(facts)


def has_other_states(facts, rule):
    return rule > all_states(facts)


def is_deed(facts, deed):
    if has_other_facts(facts, deed.need | deed.be | deed.on | deed.off):
        return False
    return (deed.be & deed.need) == deed.be and (deed.on & deed.off) == 0


def is_let(rule, s):
    return ((rule >> s) & 1) == 1


def has_what_it_needs(deed, s):
    return (s & deed.need) == deed.be


def state_after(deed, s):
    return (s | deed.on) & ~deed.off


def can_be_done(rule, deed, s):
    return has_what_it_needs(deed, s) and is_let(rule, state_after(deed, s))


def states_reached(rule, deeds, s):
    """The states, rising, to which a copy may come from s."""
    found = {s: True}
    waiting = [s]
    while waiting:
        here = waiting.pop()
        for deed in deeds:
            there = state_after(deed, here)
            if there not in found and can_be_done(rule, deed, here):
                found[there] = True
                waiting.append(there)
    return sorted(found)


def put_together(s, states):
    changed = 0
    for y in states:
        changed = changed | (s ^ y)
    return s ^ changed


def first_rows(s, reached, k):
    """For each set of facts that k copies may change from s, the first row of states by which they do.

    reached are the states, rising, to which a copy may come from s. The rows come in their order, the first ahead.
    """
    rows = {0: []}
    for step in range(k):
        longer = {}
        # Rows and reached are in order, so what's met here is too: the first met for a change is its first row.
        # To keep no others loses none, since what a first row begins with is the first for what that changes.
        for changed in rows:
            for y in reached:
                whole = changed | (s ^ y)
                if whole not in longer:
                    longer[whole] = rows[changed] + [y]
        rows = longer
    return rows


def first_breaking_row(rule, deeds, s, k):
    """The first row of states to which k copies come from s so that the rule is broken; empty if there's none.

    It doesn't fall: put in order it would change the same, and be earlier.
    """
    rows = first_rows(s, states_reached(rule, deeds, s), k)
    for changed in rows:
        if not is_let(rule, s ^ changed):
            return rows[changed]
    return []
