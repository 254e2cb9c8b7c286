"""Point 5: closed and open, which is called open_states."""

import unittest

from calling import NOT_BOTH, all_but, ask, begin, changes_nothing, closed, deed, drop, last, one_list, open_states, rule
from keptapart.copies import answers

BOTH = [closed(), open_states()]
IS_CLOSED = [[1], [-33]]


def is_so(s, f):
    return s // 2 ** f % 2 == 1


def joined(facts, s, y, z):
    changed = [f for f in range(facts) if is_so(s, f) != is_so(y, f) or is_so(s, f) != is_so(z, f)]
    return sum(2 ** f for f in range(facts) if is_so(s, f) != (f in changed))


def first_three(facts, states):
    """The document's words, with every three states gone through."""
    let = [s for s in range(2 ** facts) if is_so(states, s)]
    threes = [[s, y, z] for s in let for y in let for z in let if z >= y]
    return next((three for three in threes if joined(facts, *three) not in let), None)


class ClosedAndOpen(unittest.TestCase):
    def test_whole_list(self):
        calls = [begin(2), *BOTH, rule(all_but(2, 3)), *BOTH]
        self.assertEqual(answers(one_list(calls)), [1, 0, 1, 1, 1, -33, 1, 0, 1, 0, 3, 0, 1, 2])

    def test_all_let_and_none_let(self):
        for facts in range(1, 5):
            self.assertEqual(ask(begin(facts), *BOTH)[1:], IS_CLOSED)
            self.assertEqual(ask(begin(facts), rule(0), *BOTH)[2:], IS_CLOSED)

    def test_one_fact_whatever_the_rule(self):
        for states in range(4):
            self.assertEqual(ask(begin(1), rule(states), *BOTH)[2:], IS_CLOSED)

    def test_one_or_two_states_let(self):
        for one in range(16):
            for other in range(16):
                self.assertEqual(ask(begin(4), rule(2 ** one | 2 ** other), *BOTH)[2:], IS_CLOSED)

    def test_a_rule_that_forbids_all_facts_together(self):
        self.assertEqual(ask(begin(3), rule(all_but(3, 7)), *BOTH)[2:], [[0], [0, 1, 6]])
        self.assertEqual(ask(begin(4), rule(all_but(4, 15)), *BOTH)[2:], [[0], [0, 1, 14]])

    def test_a_rule_that_forbids_no_facts_at_all(self):
        self.assertEqual(ask(begin(2), rule(all_but(2, 0)), *BOTH)[2:], [[0], [3, 1, 2]])

    def test_the_first_s_then_y_then_z(self):
        # From 0 come 1 and 2 together to 3, 1 and 6 to 7, 2 and 5 to 7: the first of all is answered.
        self.assertEqual(ask(begin(3), rule(all_but(3, 3, 7)), *BOTH)[2:], [[0], [0, 1, 2]])
        self.assertEqual(ask(begin(3), rule(all_but(3, 7, 1)), *BOTH)[2:], [[0], [0, 2, 5]])
        self.assertEqual(ask(begin(3), rule(all_but(3, 0, 7)), *BOTH)[2:], [[0], [1, 3, 5]])

    def test_one_fact_follows_another(self):
        # Fact 0 is so only where fact 1 is: let are 0, 2, 3; from 2 come 0 and 3 together to 1.
        self.assertEqual(ask(begin(2), rule(all_but(2, 1)), *BOTH)[2:], [[0], [2, 0, 3]])

    def test_every_rule_of_two_and_three_facts(self):
        for facts in (2, 3):
            for states in range(2 ** 2 ** facts):
                found = first_three(facts, states)
                expected = IS_CLOSED if found is None else [[0], found]
                self.assertEqual(ask(begin(facts), rule(states), *BOTH)[2:], expected, (facts, states))

    def test_rules_of_four_facts(self):
        for states in [*range(1, 65536, 311), *[65535 - 2 ** s for s in range(16)]]:
            found = first_three(4, states)
            expected = IS_CLOSED if found is None else [[0], found]
            self.assertEqual(ask(begin(4), rule(states), *BOTH)[2:], expected, states)

    def test_deeds_are_not_asked_for(self):
        self.assertEqual(ask(*NOT_BOTH, *BOTH, drop(0), *BOTH, drop(0), *BOTH)[4:],
                         [[0], [0, 1, 2], [1], [0], [0, 1, 2], [0], [0], [0, 1, 2]])

    def test_the_rule_as_it_is_now(self):
        self.assertEqual(ask(*NOT_BOTH, rule(15), *BOTH, rule(14), *BOTH, begin(2), *BOTH)[4:],
                         [[0], *IS_CLOSED, [0], [0], [3, 1, 2], [0], *IS_CLOSED])
        self.assertEqual(last(begin(2), rule(7), rule(16), open_states()), [0, 1, 2])

    def test_looking_changes_nothing(self):
        for ahead in (NOT_BOTH, [begin(2), rule(9), deed(0, 0, 3, 0)]):
            for call in BOTH:
                self.assertTrue(changes_nothing(ahead, call))


if __name__ == "__main__":
    unittest.main()
