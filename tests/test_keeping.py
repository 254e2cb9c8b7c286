"""Point 3: keeps and broken."""

import unittest

from calling import (
    GREATEST, NOT_BOTH, ONE_EACH, ONE_EACH_OF_FOUR, all_but, ask, begin, broken, changes_nothing, deed, drop, keeps,
    last, one_list, rule,
)
from keptapart.copies import answers

ALL_K = [keeps(k) for k in range(1, 5)] + [broken(k) for k in range(1, 5)]
KEPT = [[1]] * 4 + [[-33]] * 4


class Kept(unittest.TestCase):
    def test_whole_list(self):
        self.assertEqual(answers(one_list([begin(1), keeps(1), broken(1)])), [1, 0, 1, 1, 1, -33])

    def test_no_deeds(self):
        self.assertEqual(ask(begin(3), rule(all_but(3, 0, 7)), *ALL_K)[2:], KEPT)

    def test_all_states_let(self):
        deeds = [deed(0, 0, f, 0) for f in (1, 2, 4, 8)] + [deed(1, 1, 2, 1), deed(0, 0, 0, 15)]
        self.assertEqual(ask(begin(4), *deeds, *ALL_K)[7:], KEPT)

    def test_none_let(self):
        self.assertEqual(ask(begin(2), rule(0), deed(0, 0, 1, 0), deed(0, 0, 2, 0), *ALL_K)[4:], KEPT)

    def test_one_fact_whatever_the_rule(self):
        for states in range(4):
            ahead = [begin(1), rule(states), deed(0, 0, 1, 0), deed(0, 0, 0, 1)]
            self.assertEqual(ask(*ahead, *ALL_K)[4:], KEPT)

    def test_a_deed_that_changes_nothing(self):
        self.assertEqual(ask(begin(2), rule(all_but(2, 3)), deed(0, 0, 0, 0), *ALL_K)[3:], KEPT)

    def test_two_copies_that_do_the_same(self):
        self.assertEqual(ask(begin(2), rule(all_but(2, 3)), deed(3, 0, 1, 0), *ALL_K)[3:], KEPT)

    def test_only_what_is_broken_from_a_state_that_is_let_counts(self):
        # From 0 both deeds lead to states that are let, and together to 3: but 0 isn't let.
        self.assertEqual(ask(begin(2), rule(6), deed(3, 0, 1, 0), deed(3, 0, 2, 0), *ALL_K)[4:], KEPT)

    def test_one_copy_never_breaks(self):
        self.assertEqual(ask(*NOT_BOTH, keeps(1), broken(1))[4:], [[1], [-33]])


class Broken(unittest.TestCase):
    def test_a_rule_that_forbids_all_facts_together(self):
        calls = NOT_BOTH + [keeps(2), broken(2)]
        self.assertEqual(answers(one_list(calls)), [1, 0, 1, 0, 1, 0, 1, 1, 1, 0, 4, 0, 1, 2, 3])

    def test_more_copies_than_it_needs(self):
        self.assertEqual(ask(*NOT_BOTH, keeps(3), broken(3), keeps(4), broken(4))[4:],
                         [[0], [0, 0, 1, 2, 3], [0], [0, 0, 0, 1, 2, 3]])

    def test_three_that_break_what_no_two_do(self):
        self.assertEqual(ask(*ONE_EACH, *ALL_K)[5:], [[1], [1], [0], [0], [-33], [-33], [0, 1, 2, 4, 7],
                                                      [0, 0, 1, 2, 4, 7]])

    def test_four_that_break_what_no_three_do(self):
        self.assertEqual(ask(*ONE_EACH_OF_FOUR, *ALL_K)[6:],
                         [[1], [1], [1], [0], [-33], [-33], [-33], [0, 1, 2, 4, 8, 15]])

    def test_the_first_state_that_is_let(self):
        # From 0 copies would come together to 6, but 0 isn't let; from 1 they come to 7.
        ahead = [begin(3), rule(all_but(3, 0, 6, 7)), deed(0, 0, 2, 0), deed(0, 0, 4, 0)]
        self.assertEqual(last(*ahead, broken(2)), [1, 3, 5, 7])

    def test_a_later_state_when_the_earlier_keep(self):
        ahead = [begin(3), rule(all_but(3, 0)), deed(7, 6, 0, 2), deed(7, 6, 0, 4)]
        self.assertEqual(last(*ahead, broken(2)), [6, 2, 4, 0])

    def test_the_first_row(self):
        # From 0 both (1, 6) and (2, 5), and more, come together to 7: (1, 6) is first.
        ahead = [begin(3), rule(all_but(3, 7))] + [deed(7, 0, on, 0) for on in (6, 5, 2, 1)]
        self.assertEqual(last(*ahead, broken(2)), [0, 1, 6, 7])
        self.assertEqual(last(*ahead, broken(3)), [0, 0, 1, 6, 7])
        self.assertEqual(last(*ahead, broken(4)), [0, 0, 0, 1, 6, 7])

    def test_the_first_row_of_all_that_break(self):
        # What is put together of 1 and 8 isn't let, nor what is of 1 and 2: the lesser row is answered.
        ahead = [begin(4), rule(all_but(4, 9, 3))] + [deed(15, 0, on, 0) for on in (8, 1, 2)]
        self.assertEqual(last(*ahead, broken(2)), [0, 1, 2, 3])

    def test_the_state_itself_stands_where_it_comes_in_order(self):
        # From 3 a copy may come to 1 and 2, both ahead of 3; what is put together is 0.
        ahead = [begin(2), rule(all_but(2, 0)), deed(3, 3, 0, 1), deed(3, 3, 0, 2)]
        self.assertEqual(ask(*ahead, broken(2), broken(3), broken(4))[4:],
                         [[3, 1, 2, 0], [3, 1, 1, 2, 0], [3, 1, 1, 1, 2, 0]])

    def test_deeds_one_behind_another_at_a_copy(self):
        # No deed alone breaks it with another: a copy has to do two.
        ahead = [begin(3), rule(all_but(3, 7)), deed(7, 0, 1, 0), deed(7, 1, 2, 0), deed(7, 0, 4, 0)]
        self.assertEqual(last(*ahead, broken(2)), [0, 3, 4, 7])

    def test_the_rule_as_it_is_now_and_the_deeds_that_are_there(self):
        self.assertEqual(ask(*NOT_BOTH, rule(15), keeps(2), rule(7), keeps(2), drop(0), keeps(2))[4:],
                         [[0], [1], [0], [0], [1], [1]])

    def test_a_begin_that_comes_again(self):
        self.assertEqual(ask(*NOT_BOTH, begin(2), keeps(2), broken(2))[4:], [[0], [1], [-33]])


class Refused(unittest.TestCase):
    def test_k_is_one_to_four_however_many_the_facts(self):
        for facts in range(1, 5):
            for k in (0, 5, GREATEST):
                self.assertEqual(ask(begin(facts), keeps(k), broken(k))[1:], [[-22], [-22]])
            for k in range(1, 5):
                self.assertEqual(ask(begin(facts), keeps(k), broken(k))[1:], [[1], [-33]])

    def test_k_is_answered_ahead_of_kept_and_of_broken(self):
        for k in (0, 5, GREATEST):
            self.assertEqual(ask(*NOT_BOTH, keeps(k), broken(k))[4:], [[-22], [-22]])

    def test_looking_changes_nothing(self):
        for ahead in (NOT_BOTH, ONE_EACH):
            for call in (keeps(0), keeps(2), keeps(3), broken(5), broken(2), broken(3)):
                self.assertTrue(changes_nothing(ahead, call), call)


if __name__ == "__main__":
    unittest.main()
