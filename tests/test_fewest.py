"""Point 3: fewest and broken_at."""

import unittest

from calling import (
    GREATEST, NOT_BOTH, ONE_EACH, ONE_EACH_OF_FOUR, all_but, ask, begin, broken_at, changes_nothing, deed, drop, fewest,
    last, one_list, rule,
)
from keptapart.copies import answers

# Objects that keep the rule by however many copies.
KEEPING = [
    [begin(3)],
    [begin(3), rule(all_but(3, 0, 7))],
    [begin(4)] + [deed(0, 0, f, 0) for f in (1, 2, 4, 8)] + [deed(1, 1, 2, 1), deed(0, 0, 0, 15)],
    [begin(2), rule(0), deed(0, 0, 1, 0), deed(0, 0, 2, 0)],
    [begin(2), rule(all_but(2, 3)), deed(0, 0, 0, 0)],
    [begin(2), rule(all_but(2, 3)), deed(3, 0, 1, 0), deed(3, 0, 1, 0)],
    [begin(2), rule(6), deed(3, 0, 1, 0), deed(3, 0, 2, 0)],
]


class Fewest(unittest.TestCase):
    def test_whole_list(self):
        self.assertEqual(answers(one_list([*NOT_BOTH, fewest()])), [1, 0, 1, 0, 1, 0, 1, 1, 1, 2])
        self.assertEqual(answers(one_list([begin(1), fewest()])), [1, 0, 1, -33])

    def test_three_that_break_what_no_two_do(self):
        self.assertEqual(last(*ONE_EACH, fewest()), [3])

    def test_four_that_break_what_no_three_do(self):
        self.assertEqual(last(*ONE_EACH_OF_FOUR, fewest()), [4])

    def test_two_of_four_facts(self):
        ahead = [begin(4), rule(all_but(4, 15)), deed(15, 0, 7, 0), deed(15, 0, 8, 0), deed(15, 0, 4, 0)]
        self.assertEqual(last(*ahead, fewest()), [2])

    def test_two_copies_from_a_later_state_ahead_of_three_from_the_first(self):
        # From 0 three copies come together to 7; from 8 two do to 15.
        ahead = [begin(4), rule(all_but(4, 7, 15))]
        ahead += [deed(15, 0, 1, 0), deed(15, 0, 2, 0), deed(15, 0, 4, 0), deed(15, 8, 3, 0), deed(15, 8, 4, 0)]
        self.assertEqual(last(*ahead, fewest()), [2])
        self.assertEqual(last(*ahead, drop(4), fewest()), [3])

    def test_deeds_one_behind_another_at_a_copy(self):
        ahead = [begin(3), rule(all_but(3, 7)), deed(7, 0, 1, 0), deed(7, 1, 2, 0), deed(7, 0, 4, 0)]
        self.assertEqual(last(*ahead, fewest()), [2])

    def test_kept_by_however_many(self):
        for ahead in KEEPING:
            self.assertEqual(last(*ahead, fewest()), [-33], ahead)

    def test_one_fact_whatever_the_rule(self):
        for states in range(4):
            self.assertEqual(last(begin(1), rule(states), deed(0, 0, 1, 0), deed(0, 0, 0, 1), fewest()), [-33])

    def test_the_rule_as_it_is_now_and_the_deeds_that_are_there(self):
        self.assertEqual(ask(*ONE_EACH, rule(255), fewest(), rule(all_but(3, 3)), fewest(), drop(0), fewest())[5:],
                         [[0], [-33], [0], [2], [2], [-33]])
        self.assertEqual(ask(*ONE_EACH, begin(3), fewest())[5:], [[0], [-33]])

    def test_looking_changes_nothing(self):
        for ahead in (NOT_BOTH, ONE_EACH, *KEEPING):
            self.assertTrue(changes_nothing(ahead, fewest()))


class BrokenAt(unittest.TestCase):
    def test_whole_list(self):
        calls = [*NOT_BOTH, broken_at(2, 0), broken_at(2, 1)]
        self.assertEqual(answers(one_list(calls)), [1, 0, 1, 0, 1, 0, 1, 1, 3, 3, 1, 2, 1, -33])

    def test_each_k(self):
        self.assertEqual(ask(*NOT_BOTH, *[broken_at(k, 0) for k in range(1, 5)])[4:],
                         [[-33], [3, 1, 2], [3, 0, 1, 2], [3, 0, 0, 1, 2]])

    def test_three_that_break_what_no_two_do(self):
        self.assertEqual(ask(*ONE_EACH, *[broken_at(k, 0) for k in range(1, 5)])[5:],
                         [[-33], [-33], [7, 1, 2, 4], [7, 0, 1, 2, 4]])

    def test_four_that_break_what_no_three_do(self):
        self.assertEqual(ask(*ONE_EACH_OF_FOUR, *[broken_at(k, 0) for k in range(1, 5)])[6:],
                         [[-33], [-33], [-33], [15, 1, 2, 4, 8]])

    def test_from_another_state_than_the_first(self):
        # From 0 it's broken first, to 3; from 4 copies come to 7.
        ahead = [begin(3), rule(all_but(3, 3, 7)), deed(0, 0, 1, 0), deed(0, 0, 2, 0)]
        given = ask(*ahead, *[broken_at(2, s) for s in range(8)])[4:]
        self.assertEqual(given, [[3, 1, 2], [-33], [-33], [-6], [7, 5, 6], [-33], [-33], [-6]])

    def test_the_state_itself_stands_where_it_comes_in_order(self):
        ahead = [begin(2), rule(all_but(2, 0)), deed(3, 3, 0, 1), deed(3, 3, 0, 2)]
        self.assertEqual(ask(*ahead, broken_at(2, 3), broken_at(3, 3), broken_at(4, 3))[4:],
                         [[0, 1, 2], [0, 1, 1, 2], [0, 1, 1, 1, 2]])

    def test_the_first_row(self):
        ahead = [begin(3), rule(all_but(3, 7))] + [deed(7, 0, on, 0) for on in (6, 5, 2, 1)]
        self.assertEqual(ask(*ahead, broken_at(2, 0), broken_at(3, 0))[6:], [[7, 1, 6], [7, 0, 1, 6]])

    def test_the_first_row_of_all_that_break(self):
        ahead = [begin(4), rule(all_but(4, 9, 3))] + [deed(15, 0, on, 0) for on in (8, 1, 2)]
        self.assertEqual(last(*ahead, broken_at(2, 0)), [3, 1, 2])

    def test_kept(self):
        for ahead in KEEPING[:3] + KEEPING[4:6]:
            for k in range(1, 5):
                self.assertEqual(last(*ahead, broken_at(k, 1)), [-33])

    def test_one_fact_whatever_the_rule(self):
        for states in range(4):
            ahead = [begin(1), rule(states), deed(0, 0, 1, 0), deed(0, 0, 0, 1)]
            for s in range(2):
                expected = [-33] if states // 2 ** s % 2 else [-6]
                self.assertEqual(ask(*ahead, *[broken_at(k, s) for k in range(1, 5)])[4:], [expected] * 4)

    def test_the_rule_as_it_is_now_and_the_deeds_that_are_there(self):
        looks = [broken_at(2, 0)]
        self.assertEqual(ask(*NOT_BOTH, rule(15), *looks, rule(7), *looks, rule(14), *looks)[5::2],
                         [[-33], [3, 1, 2], [-6]])
        self.assertEqual(ask(*NOT_BOTH, drop(0), *looks, deed(3, 0, 1, 0), *looks)[4:], [[1], [-33], [1], [3, 1, 2]])


class BrokenAtRefused(unittest.TestCase):
    def test_k_is_not_one_to_four(self):
        for facts in range(1, 5):
            for k in (0, 5, GREATEST):
                self.assertEqual(last(begin(facts), broken_at(k, 0)), [-22])

    def test_k_is_answered_ahead_of_not_let_and_of_not_broken(self):
        for k in (0, 5, GREATEST):
            for s in (0, 1, 3, 4, GREATEST):
                self.assertEqual(last(*NOT_BOTH, broken_at(k, s)), [-22])

    def test_other_facts_are_answered_ahead_of_not_let_and_of_not_broken(self):
        for facts in range(1, 5):
            for s in (2 ** facts, 2 ** facts + 1, GREATEST):
                for states in (0, 1, 2 ** 2 ** facts - 1):
                    self.assertEqual(last(begin(facts), rule(states), broken_at(2, s)), [-22])

    def test_not_let_is_answered_ahead_of_not_broken(self):
        self.assertEqual(ask(*NOT_BOTH, *[broken_at(k, 3) for k in range(1, 5)])[4:], [[-6]] * 4)
        self.assertEqual(ask(begin(2), rule(0), *[broken_at(2, s) for s in range(4)])[2:], [[-6]] * 4)

    def test_not_let_though_copies_would_come_to_what_is_not_let(self):
        ahead = [begin(2), rule(6), deed(3, 0, 1, 0), deed(3, 0, 2, 0)]
        self.assertEqual(last(*ahead, broken_at(2, 0)), [-6])

    def test_looking_changes_nothing(self):
        for call in (broken_at(2, 0), broken_at(2, 1), broken_at(2, 3), broken_at(2, 4), broken_at(0, 0)):
            self.assertTrue(changes_nothing(NOT_BOTH, call), call)


if __name__ == "__main__":
    unittest.main()
