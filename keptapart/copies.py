"""The calls on one object, and how they are read from one list and answered in one."""

from keptapart.states import (
    Deed,
    all_states,
    are_free,
    deeds_in,
    fewest_asked_sets,
    fewest_that_break,
    first_break,
    first_breaking_row,
    first_clash,
    first_opening,
    has_other_deeds,
    has_other_facts,
    has_other_states,
    has_what_it_needs,
    how_many_in,
    is_deed,
    is_let,
    most_free_sets,
    put_together,
    state_after,
    states_reached,
    twos_that_clash,
)

NOT_BEGUN = -61
NO_SUCH_DEED = -2
NOT_AS_TOLD = -22
NO_MORE_DEEDS = -28
NEED_NOT_SO = -6
BEGINS_NOT_LET = -6
NOT_LET = -33
IS_KEPT = -33
NO_CLASH = -33
IS_CLOSED = -33

MOST_FACTS = 4
MOST_DEEDS = 6
MOST_COPIES = 4

BEGIN = 0
TOGETHER = 8


class Copies:
    """What the calls of one list are made on; it has facts once it is begun."""

    def __init__(self):
        self.facts = 0
        self.rule = 0
        self.deeds = []


def is_begun(held):
    return held.facts > 0


def has_deed(held, i):
    return i < len(held.deeds)


def is_state(held, s):
    return not has_other_facts(held.facts, s)


def is_count_of_copies(k):
    return k >= 1 and k <= MOST_COPIES


def yes_or_no(so):
    return [1] if so else [0]


def answer_begin(held, told):
    facts = told[0]
    if facts < 1 or facts > MOST_FACTS:
        return [NOT_AS_TOLD]
    held.facts = facts
    held.rule = all_states(facts)
    held.deeds = []
    return [0]


def answer_rule(held, told):
    if has_other_states(held.facts, told[0]):
        return [NOT_AS_TOLD]
    held.rule = told[0]
    return [0]


def answer_deed(held, told):
    deed = Deed(told[0], told[1], told[2], told[3])
    if not is_deed(held.facts, deed):
        return [NOT_AS_TOLD]
    if len(held.deeds) == MOST_DEEDS:
        return [NO_MORE_DEEDS]
    held.deeds.append(deed)
    return [len(held.deeds) - 1]


def answer_drop(held, told):
    if not has_deed(held, told[0]):
        return [NO_SUCH_DEED]
    held.deeds.pop(told[0])
    return [len(held.deeds)]


def answer_deed_is(held, told):
    if not has_deed(held, told[0]):
        return [NO_SUCH_DEED]
    deed = held.deeds[told[0]]
    return [4, deed.need, deed.be, deed.on, deed.off]


def answer_let(held, told):
    if not is_state(held, told[0]):
        return [NOT_AS_TOLD]
    return yes_or_no(is_let(held.rule, told[0]))


def answer_does(held, told):
    s = told[0]
    if not has_deed(held, told[1]):
        return [NO_SUCH_DEED]
    if not is_state(held, s):
        return [NOT_AS_TOLD]
    deed = held.deeds[told[1]]
    if not has_what_it_needs(deed, s):
        return [NEED_NOT_SO]
    if not is_let(held.rule, state_after(deed, s)):
        return [NOT_LET]
    return [state_after(deed, s)]


def answer_reach(held, told):
    if not is_state(held, told[0]):
        return [NOT_AS_TOLD]
    reached = states_reached(held.rule, held.deeds, told[0])
    return [len(reached)] + reached


def answer_together(held, told):
    s = told[0]
    # told[1] is only how long the row is
    states = told[2:]
    for y in [s] + states:
        if not is_state(held, y):
            return [NOT_AS_TOLD]
    return [put_together(s, states)]


def answer_keeps(held, told):
    if not is_count_of_copies(told[0]):
        return [NOT_AS_TOLD]
    return yes_or_no(len(first_break(held.rule, held.deeds, told[0])) == 0)


def answer_broken(held, told):
    if not is_count_of_copies(told[0]):
        return [NOT_AS_TOLD]
    found = first_break(held.rule, held.deeds, told[0])
    if len(found) == 0:
        return [IS_KEPT]
    return found


def answer_fewest(held, told):
    fewest = fewest_that_break(held.facts, held.rule, held.deeds)
    if fewest == 0:
        return [IS_KEPT]
    return [fewest]


def answer_broken_at(held, told):
    k = told[0]
    s = told[1]
    if not is_count_of_copies(k):
        return [NOT_AS_TOLD]
    if not is_state(held, s):
        return [NOT_AS_TOLD]
    if not is_let(held.rule, s):
        return [BEGINS_NOT_LET]
    row = first_breaking_row(held.rule, held.deeds, s, k)
    if len(row) == 0:
        return [IS_KEPT]
    return [put_together(s, row)] + row


def answer_clash(held, told):
    if not has_deed(held, told[0]) or not has_deed(held, told[1]):
        return [NO_SUCH_DEED]
    found = first_clash(held.rule, held.deeds[told[0]], held.deeds[told[1]])
    if len(found) == 0:
        return [NO_CLASH]
    return found


def answer_clashes(held, told):
    twos = twos_that_clash(held.rule, held.deeds)
    answer = [len(twos)]
    for two in twos:
        answer.extend(two)
    return answer


def answer_free(held, told):
    if has_other_deeds(held.deeds, told[0]):
        return [NOT_AS_TOLD]
    return yes_or_no(are_free(held.rule, deeds_in(held.deeds, told[0])))


def answer_most_free(held, told):
    found = most_free_sets(held.rule, held.deeds)
    return [len(found)] + found


def answer_asked(held, told):
    found = fewest_asked_sets(held.rule, held.deeds)
    return [how_many_in(found[0])] + found


def answer_alone(held, told):
    if not has_deed(held, told[0]):
        return [NO_SUCH_DEED]
    return yes_or_no(are_free(held.rule, [held.deeds[told[0]]]))


def answer_closed(held, told):
    return yes_or_no(len(first_opening(held.rule)) == 0)


def answer_open_states(held, told):
    found = first_opening(held.rule)
    if len(found) == 0:
        return [IS_CLOSED]
    return found


def answer_state(held, told):
    return [held.facts, len(held.deeds), how_many_in(held.rule)]


# For each call, by its number: how many whole numbers are told (ahead of a row), and what answers it.
CALLS = (
    (1, answer_begin),
    (1, answer_rule),
    (4, answer_deed),
    (1, answer_drop),
    (1, answer_deed_is),
    (1, answer_let),
    (2, answer_does),
    (1, answer_reach),
    (1, answer_together),
    (1, answer_keeps),
    (1, answer_broken),
    (0, answer_fewest),
    (2, answer_broken_at),
    (2, answer_clash),
    (0, answer_clashes),
    (1, answer_free),
    (0, answer_most_free),
    (0, answer_asked),
    (1, answer_alone),
    (0, answer_closed),
    (0, answer_open_states),
    (0, answer_state),
)


def call_end(calls, at):
    """Where the call that begins there ends."""
    end = at + 1 + CALLS[calls[at]][0]
    if calls[at] == TOGETHER:
        end = end + 1 + calls[end]
    return end


def answer_call(held, number, told):
    if number != BEGIN and not is_begun(held):
        return [NOT_BEGUN]
    answer = CALLS[number][1]
    return answer(held, told)


def answers(calls):
    """For each call, in order: how many numbers are answered, then these."""
    held = Copies()
    given = []
    at = 0
    while at < len(calls):
        end = call_end(calls, at)
        answer = answer_call(held, calls[at], calls[at + 1:end])
        given.append(len(answer))
        given.extend(answer)
        at = end
    return given
