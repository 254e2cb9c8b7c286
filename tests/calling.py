"""How tests write calls and read answers: each function gives one call as the list of its numbers."""

from keptapart.copies import answers

GREATEST = 2147483647


def begin(facts):
    return [0, facts]


def rule(states):
    return [1, states]


def deed(need, be, on, off):
    return [2, need, be, on, off]


def drop(i):
    return [3, i]


def deed_is(i):
    return [4, i]


def let(s):
    return [5, s]


def does(s, i):
    return [6, s, i]


def reach(s):
    return [7, s]


def together(s, *states):
    return [8, s, len(states), *states]


def keeps(k):
    return [9, k]


def broken(k):
    return [10, k]


def fewest():
    return [11]


def broken_at(k, s):
    return [12, k, s]


def clash(i, j):
    return [13, i, j]


def clashes():
    return [14]


def free(x):
    return [15, x]


def most_free():
    return [16]


def asked():
    return [17]


def alone(i):
    return [18, i]


def closed():
    return [19]


def open_states():
    return [20]


def state():
    return [21]


def one_list(calls):
    return [number for call in calls for number in call]


def ask(*calls):
    """What is answered of each call, as one list each."""
    if len(calls) > 60:
        raise AssertionError("a list has at most 60 calls")
    given = answers(one_list(calls))
    split = []
    at = 0
    while at < len(given):
        split.append(given[at + 1:at + 1 + given[at]])
        at += 1 + given[at]
    if at != len(given) or len(split) != len(calls):
        raise AssertionError(f"not one answer for each call: {given}")
    return split


def last(*calls):
    return ask(*calls)[-1]


def all_but(facts, *states):
    """The number of the rule that lets all states but these."""
    return sum(2 ** s for s in range(2 ** facts) if s not in states)


# A look at everything that begin, rule and deed can change, for tests that nothing was.
LOOK = [
    *[let(s) for s in range(17)],
    *[deed_is(i) for i in range(7)],
    *[reach(s) for s in range(17)],
    state(),
]


def changes_nothing(ahead, call):
    """Whether all looks the same behind the call as without it."""
    return ask(*ahead, call, *LOOK)[len(ahead) + 1:] == ask(*ahead, *LOOK)[len(ahead):]


# Objects of which each call tells something.
NOT_BOTH = [begin(2), rule(all_but(2, 3)), deed(0, 0, 1, 0), deed(0, 0, 2, 0)]
# Each deed asks that no fact is so yet: a copy makes one fact so, two copies two, three all.
ONE_EACH = [begin(3), rule(all_but(3, 7)), deed(7, 0, 1, 0), deed(7, 0, 2, 0), deed(7, 0, 4, 0)]
ONE_EACH_OF_FOUR = [begin(4), rule(all_but(4, 15))] + [deed(15, 0, f, 0) for f in (1, 2, 4, 8)]
