"""What a rule lets, what deeds do, and what comes of copies put together: functions that keep nothing.

A set of facts, and so a state, is a number: 2 to the power of each fact's number, together.
A rule is a number likewise: 2 to the power of the number of each state that's let, together.
So is a set of deeds: 2 to the power of each one's number, together.
"""


class Deed:
    """Of the facts of need just those of be have to be so; those of on become so, those of off not so."""

    def __init__(self, need, be, on, off):
        self.need = need
        self.be = be
        self.on = on
        self.off = off


def is_in(chosen, number):
    return ((chosen >> number) & 1) == 1


def how_many_in(chosen):
    found = 0
    for number in range(chosen.bit_length()):
        if is_in(chosen, number):
            found = found + 1
    return found


def how_many_states(facts):
    return 1 << facts


def all_states(facts):
    return (1 << how_many_states(facts)) - 1


def has_other_facts(facts, chosen):
    return chosen >= how_many_states(facts)


def has_other_states(facts, rule):
    return rule > all_states(facts)


def is_deed(facts, deed):
    if has_other_facts(facts, deed.need | deed.be | deed.on | deed.off):
        return False
    return (deed.be & deed.need) == deed.be and (deed.on & deed.off) == 0


def is_let(rule, s):
    return is_in(rule, s)


def states_let(rule):
    return [s for s in range(rule.bit_length()) if is_let(rule, s)]


def has_what_it_needs(deed, s):
    return (s & deed.need) == deed.be


def state_after(deed, s):
    return (s | deed.on) & ~deed.off


def can_be_done(rule, deed, s):
    return has_what_it_needs(deed, s) and is_let(rule, state_after(deed, s))


def states_reached(rule, deeds, s):
    """The states, rising, to which a copy may come from s."""
    found = {s: True}
    waiting = [s]
    while waiting:
        here = waiting.pop()
        for deed in deeds:
            there = state_after(deed, here)
            if there not in found and can_be_done(rule, deed, here):
                found[there] = True
                waiting.append(there)
    return sorted(found)


def put_together(s, states):
    changed = 0
    for y in states:
        changed = changed | (s ^ y)
    return s ^ changed


def first_rows(s, reached, k):
    """For each set of facts that k copies may change from s, the first row of states by which they do.

    reached are the states, rising, to which a copy may come from s. The rows come in their order, the first ahead.
    """
    rows = {0: []}
    for step in range(k):
        longer = {}
        # Rows and reached are in order, so what's met here is too: the first met for a change is its first row.
        # To keep no others loses none, since what a first row begins with is the first for what that changes.
        for changed in rows:
            for y in reached:
                whole = changed | (s ^ y)
                if whole not in longer:
                    longer[whole] = rows[changed] + [y]
        rows = longer
    return rows


def first_breaking_row(rule, deeds, s, k):
    """The first row of states to which k copies come from s so that the rule is broken; empty if there's none.

    It doesn't fall: put in order it would change the same, and be earlier.
    """
    rows = first_rows(s, states_reached(rule, deeds, s), k)
    for changed in rows:
        if not is_let(rule, s ^ changed):
            return rows[changed]
    return []


def first_break(rule, deeds, k):
    """The first state from which k copies break the rule, to what each came, what's put together; empty if kept."""
    for s in states_let(rule):
        row = first_breaking_row(rule, deeds, s, k)
        if len(row) > 0:
            return [s] + row + [put_together(s, row)]
    return []


def fewest_that_break(facts, rule, deeds):
    """The fewest copies by which the rule is broken; 0 if it's kept by however many."""
    # More copies than facts break nothing more: for each fact that's changed one copy that changed it is enough.
    for k in range(1, facts + 1):
        if len(first_break(rule, deeds, k)) > 0:
            return k
    return 0


def first_clash(rule, one, other):
    """The first state from which two deeds clash, alone in a list; empty if they don't."""
    for s in states_let(rule):
        if can_be_done(rule, one, s) and can_be_done(rule, other, s):
            if not is_let(rule, put_together(s, [state_after(one, s), state_after(other, s)])):
                return [s]
    return []


def twos_that_clash(rule, deeds):
    found = []
    for i in range(len(deeds)):
        for j in range(i, len(deeds)):
            if len(first_clash(rule, deeds[i], deeds[j])) > 0:
                found.append((i, j))
    return found


def states_together(s, reached):
    """What's put together of however many copies that had s, each of which came to one of the states reached."""
    found = {s: True}
    for y in reached:
        # What's put together of what is there already is there too.
        if y not in found:
            for there in list(found):
                found[put_together(s, [there, y])] = True
    return sorted(found)


def are_free(rule, deeds):
    # As many copies as facts tell of however many, and these are looked through faster.
    for s in states_let(rule):
        for y in states_together(s, states_reached(rule, deeds, s)):
            if not is_let(rule, y):
                return False
    return True


def all_deeds(deeds):
    return (1 << len(deeds)) - 1


def has_other_deeds(deeds, chosen):
    return chosen > all_deeds(deeds)


def deeds_in(deeds, chosen):
    return [deeds[i] for i in range(len(deeds)) if is_in(chosen, i)]


def lies_in_one(chosen, others):
    for other in others:
        if (chosen & other) == chosen:
            return True
    return False


def most_free_sets(rule, deeds):
    """The sets of deeds, rising, that are free and lie in no greater one that is."""
    found = []
    # Falling, since a set's number is below that of each in which it lies.
    for chosen in range(all_deeds(deeds), -1, -1):
        if not lies_in_one(chosen, found) and are_free(rule, deeds_in(deeds, chosen)):
            found.append(chosen)
    return sorted(found)


def fewest_asked_sets(rule, deeds):
    """The sets, rising, of the fewest deeds without which all others are free; there's always one."""
    # The fewest leave the most, and a free set than which none has more lies in no greater one.
    asked = [all_deeds(deeds) ^ chosen for chosen in most_free_sets(rule, deeds)]
    fewest = min([how_many_in(chosen) for chosen in asked])
    return sorted([chosen for chosen in asked if how_many_in(chosen) == fewest])


def first_opening(rule):
    """The first s, y, z, all let, z not below y, of which y and z from s come together to what isn't; empty if none."""
    let = states_let(rule)
    for s in let:
        for y in let:
            for z in let:
                if z >= y and not is_let(rule, put_together(s, [y, z])):
                    return [s, y, z]
    return []
