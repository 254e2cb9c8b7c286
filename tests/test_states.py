"""Point 2: let, does, reach, together."""

import itertools
import unittest

from calling import (
    GREATEST, all_but, ask, begin, changes_nothing, deed, does, last, let, one_list, reach, rule, together,
)
from keptapart.copies import answers


class Let(unittest.TestCase):
    def test_one_and_nought(self):
        self.assertEqual(answers(one_list([begin(1), rule(2), let(0), let(1)])), [1, 0, 1, 0, 1, 0, 1, 1])

    def test_the_last_state_of_four_facts(self):
        self.assertEqual(ask(begin(4), rule(2 ** 15), let(15), let(14))[2:], [[1], [0]])

    def test_other_facts(self):
        for facts in range(1, 5):
            for s in (2 ** facts, 2 ** facts + 1, GREATEST):
                self.assertEqual(last(begin(facts), let(s)), [-22])


class Does(unittest.TestCase):
    def test_the_state_that_comes(self):
        calls = [begin(4), deed(3, 1, 4, 8), does(1, 0), does(9, 0), does(13, 0), does(5, 0)]
        self.assertEqual(answers(one_list(calls)), [1, 0, 1, 0, 1, 5, 1, 5, 1, 5, 1, 5])

    def test_just_those_of_be_have_to_be_so(self):
        given = ask(begin(2), deed(3, 1, 2, 0), *[does(s, 0) for s in range(4)])
        self.assertEqual(given[2:], [[-6], [3], [-6], [-6]])

    def test_it_needs_nothing(self):
        given = ask(begin(2), deed(0, 0, 0, 1), *[does(s, 0) for s in range(4)])
        self.assertEqual(given[2:], [[0], [0], [2], [2]])

    def test_it_needs_all_facts(self):
        for facts in range(1, 5):
            count = 2 ** facts
            for be in range(count):
                given = ask(begin(facts), deed(count - 1, be, 0, 0), *[does(s, 0) for s in range(count)])
                self.assertEqual(given[2:], [[s] if s == be else [-6] for s in range(count)])

    def test_it_changes_nothing(self):
        self.assertEqual(ask(begin(1), deed(0, 0, 0, 0), does(0, 0), does(1, 0))[2:], [[0], [1]])

    def test_what_comes_is_not_let(self):
        ahead = [begin(2), rule(all_but(2, 3)), deed(0, 0, 2, 0)]
        self.assertEqual(ask(*ahead, does(0, 0), does(1, 0))[3:], [[2], [-33]])

    def test_from_a_state_that_is_not_let(self):
        ahead = [begin(2), rule(4), deed(0, 0, 2, 1), deed(0, 0, 0, 0)]
        self.assertEqual(ask(*ahead, does(1, 0), does(1, 1), does(2, 1))[4:], [[2], [-33], [2]])

    def test_the_deed_is_asked_for_by_its_number(self):
        self.assertEqual(ask(begin(2), deed(0, 0, 1, 0), deed(0, 0, 2, 0), does(0, 1), does(0, 0))[3:], [[2], [1]])

    def test_none_such_is_answered_ahead_of_other_facts(self):
        ahead = [begin(1), deed(0, 0, 1, 0)]
        for s, i in ((0, 1), (0, GREATEST), (2, 1), (GREATEST, GREATEST)):
            self.assertEqual(last(*ahead, does(s, i)), [-2])

    def test_other_facts_are_answered_ahead_of_what_it_needs(self):
        ahead = [begin(1), rule(0), deed(1, 0, 1, 0)]
        for s in (2, 3, GREATEST):
            self.assertEqual(last(*ahead, does(s, 0)), [-22])

    def test_what_it_needs_is_answered_ahead_of_not_let(self):
        self.assertEqual(ask(begin(1), rule(0), deed(1, 0, 1, 0), does(1, 0), does(0, 0))[3:], [[-6], [-33]])

    def test_it_changes_nothing_of_the_object(self):
        ahead = [begin(2), rule(all_but(2, 3)), deed(2, 0, 1, 0)]
        for call in (does(0, 0), does(0, 1), does(4, 0), does(2, 0)):
            self.assertTrue(changes_nothing(ahead, call), call)


class Reach(unittest.TestCase):
    def test_rising_with_how_many(self):
        calls = [begin(2), deed(0, 0, 2, 1), deed(2, 2, 1, 2), reach(3), reach(0)]
        self.assertEqual(answers(one_list(calls)), [1, 0, 1, 0, 1, 1, 4, 3, 1, 2, 3, 4, 3, 0, 1, 2])

    def test_no_deeds(self):
        for facts in range(1, 5):
            for s in range(2 ** facts):
                self.assertEqual(last(begin(facts), reach(s)), [1, s])

    def test_one_behind_another(self):
        steps = [deed(15, s, s + 1 & ~s, s & ~(s + 1)) for s in range(6)]
        self.assertEqual(last(begin(4), *steps, reach(0)), [7, 0, 1, 2, 3, 4, 5, 6])
        self.assertEqual(last(begin(4), *reversed(steps), reach(2)), [5, 2, 3, 4, 5, 6])

    def test_round_about_it_ends(self):
        self.assertEqual(last(begin(1), deed(1, 0, 1, 0), deed(1, 1, 0, 1), reach(1)), [2, 0, 1])

    def test_all_sixteen(self):
        calls = [begin(4)] + [deed(0, 0, f, 0) for f in (1, 2, 4, 8)]
        self.assertEqual(last(*calls, reach(0)), [16, *range(16)])

    def test_not_through_a_state_that_is_not_let(self):
        ahead = [begin(2), rule(all_but(2, 1)), deed(0, 0, 1, 0), deed(1, 1, 2, 0)]
        self.assertEqual(ask(*ahead, reach(0), reach(1), reach(2))[4:], [[1, 0], [2, 1, 3], [2, 2, 3]])

    def test_from_a_state_that_is_not_let(self):
        ahead = [begin(2), rule(5), deed(1, 1, 2, 1), deed(0, 0, 0, 3)]
        self.assertEqual(ask(*ahead, reach(1), reach(3))[4:], [[3, 0, 1, 2], [3, 0, 2, 3]])

    def test_none_let(self):
        self.assertEqual(last(begin(2), rule(0), deed(0, 0, 1, 0), reach(2)), [1, 2])

    def test_other_facts(self):
        for facts in range(1, 5):
            for s in (2 ** facts, GREATEST):
                self.assertEqual(last(begin(facts), reach(s)), [-22])


class Together(unittest.TestCase):
    def test_changed_by_some_copy(self):
        calls = [begin(4), together(5, 4, 7), together(5, 13), together(5, 4, 1, 7, 13)]
        self.assertEqual(answers(one_list(calls)), [1, 0, 1, 6, 1, 13, 1, 10])

    def test_a_row_of_no_states(self):
        self.assertEqual(answers(one_list([begin(4), together(0), together(11)])), [1, 0, 1, 0, 1, 11])

    def test_two_copies_that_do_the_same(self):
        self.assertEqual(ask(begin(2), together(1, 2, 2), together(1, 2))[1:], [[2], [2]])

    def test_a_copy_that_changes_nothing(self):
        self.assertEqual(last(begin(3), together(6, 6, 3, 6)), [3])

    def test_it_does_not_ask_for_the_order_nor_how_often(self):
        for row in itertools.permutations((1, 2, 7)):
            self.assertEqual(ask(begin(3), together(3, *row), together(3, *row, row[0]))[1:], [[4], [4]])

    def test_whether_let_or_reached_is_not_asked(self):
        self.assertEqual(last(begin(2), rule(0), together(0, 1, 2)), [3])

    def test_other_facts_at_each_place(self):
        for facts in range(1, 5):
            for other in (2 ** facts, GREATEST):
                self.assertEqual(last(begin(facts), together(other)), [-22])
                for at in range(4):
                    row = [0, 0, 0, 0]
                    row[at] = other
                    self.assertEqual(last(begin(facts), together(1, *row)), [-22])

    def test_the_call_behind_a_row_is_read(self):
        for length in range(5):
            self.assertEqual(ask(begin(1), together(1, *[0] * length), let(2))[2], [-22])


if __name__ == "__main__":
    unittest.main()
