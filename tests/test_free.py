"""Point 4: alone, free, most_free and asked."""

import unittest

from calling import (
    GREATEST, NOT_BOTH, ONE_EACH, ONE_EACH_OF_FOUR, all_but, alone, ask, asked, begin, changes_nothing, deed, drop, free,
    last, most_free, one_list, rule,
)
from keptapart.copies import answers

SIX_ON_FOUR = [begin(4)] + [deed(0, 0, f, 0) for f in (1, 2, 4, 8)] + [deed(1, 1, 2, 1), deed(0, 0, 0, 15)]
# Two make fact 0 so, two make fact 1 so.
TWO_AND_TWO = [begin(2), rule(all_but(2, 3))] + [deed(0, 0, f, 0) for f in (1, 1, 2, 2)]
# Deeds 0 and 2 make fact 0 so, deed 1 makes fact 1 so.
TWO_AND_ONE = [begin(2), rule(all_but(2, 3)), deed(0, 0, 1, 0), deed(0, 0, 2, 0), deed(1, 0, 1, 0)]


class Alone(unittest.TestCase):
    def test_whole_list(self):
        self.assertEqual(answers(one_list([*NOT_BOTH, alone(0), alone(1)])), [1, 0, 1, 0, 1, 0, 1, 1, 1, 1, 1, 1])

    def test_each_deed_alone_is_free(self):
        # Done again it changes nothing more, so copies that do it alone all come to the same.
        for states in range(16):
            for need, be, on, off in [(n, b, on, off) for n in range(4) for b in range(4) for on in range(4)
                                      for off in range(4) if b & n == b and on & off == 0]:
                self.assertEqual(last(begin(2), rule(states), deed(need, be, on, off), alone(0)), [1])

    def test_no_others_are_done_with_it(self):
        for ahead, count in ((ONE_EACH, 3), (ONE_EACH_OF_FOUR, 4), (TWO_AND_TWO, 4)):
            self.assertEqual(ask(*ahead, *[alone(i) for i in range(count)])[-count:], [[1]] * count)

    def test_none_such(self):
        for i in (2, 3, 6, GREATEST):
            self.assertEqual(last(*NOT_BOTH, alone(i)), [-2])
        self.assertEqual(last(begin(1), alone(0)), [-2])

    def test_after_a_drop_and_another_rule(self):
        self.assertEqual(ask(*NOT_BOTH, drop(0), alone(0), alone(1), rule(0), alone(0))[4:],
                         [[1], [1], [-2], [0], [1]])

    def test_looking_changes_nothing(self):
        for call in (alone(0), alone(2)):
            self.assertTrue(changes_nothing(NOT_BOTH, call))


class Free(unittest.TestCase):
    def test_whole_list(self):
        calls = [*NOT_BOTH, free(0), free(1), free(2), free(3), free(4)]
        self.assertEqual(answers(one_list(calls)), [1, 0, 1, 0, 1, 0, 1, 1, 1, 1, 1, 1, 1, 1, 1, 0, 1, -22])

    def test_three_that_break_what_no_two_do(self):
        self.assertEqual(ask(*ONE_EACH, *[free(x) for x in range(8)])[5:], [[1]] * 7 + [[0]])

    def test_four_that_break_what_no_three_do(self):
        self.assertEqual(ask(*ONE_EACH_OF_FOUR, *[free(x) for x in range(16)])[6:], [[1]] * 15 + [[0]])

    def test_deeds_one_behind_another_at_a_copy(self):
        ahead = [begin(3), rule(all_but(3, 7)), deed(7, 0, 1, 0), deed(7, 1, 2, 0), deed(7, 0, 4, 0)]
        self.assertEqual(ask(*ahead, *[free(x) for x in range(8)])[5:], [[1]] * 7 + [[0]])

    def test_only_those_of_the_set_are_done(self):
        self.assertEqual(ask(*TWO_AND_ONE, *[free(x) for x in range(8)])[5:],
                         [[1], [1], [1], [0], [1], [1], [0], [0]])

    def test_from_a_state_that_is_let_alone(self):
        ahead = [begin(2), rule(6), deed(3, 0, 1, 0), deed(3, 0, 2, 0)]
        self.assertEqual(last(*ahead, free(3)), [1])

    def test_all_let_and_none_let(self):
        self.assertEqual(ask(*SIX_ON_FOUR, *[free(x) for x in (0, 1, 31, 32, 63)])[7:], [[1]] * 5)
        self.assertEqual(ask(*NOT_BOTH, rule(0), *[free(x) for x in range(4)])[5:], [[1]] * 4)

    def test_one_fact_whatever_the_rule(self):
        for states in range(4):
            ahead = [begin(1), rule(states), deed(0, 0, 1, 0), deed(0, 0, 0, 1)]
            self.assertEqual(ask(*ahead, *[free(x) for x in range(4)])[4:], [[1]] * 4)

    def test_deeds_that_change_nothing_or_do_the_same(self):
        ahead = [begin(2), rule(all_but(2, 3)), deed(0, 0, 0, 0), deed(3, 0, 1, 0), deed(3, 0, 1, 0)]
        self.assertEqual(ask(*ahead, *[free(x) for x in range(8)])[5:], [[1]] * 8)

    def test_other_deeds(self):
        for count in range(7):
            ahead = [begin(1)] + [deed(0, 0, 1, 0)] * count
            for x in (2 ** count, 2 ** count + 1, 2 ** 6, GREATEST):
                expected = [-22] if x >= 2 ** count else [1]
                self.assertEqual(last(*ahead, free(x)), expected)
            self.assertEqual(last(*ahead, free(2 ** count - 1)), [1])

    def test_after_a_drop_and_another_rule(self):
        self.assertEqual(ask(*TWO_AND_ONE, drop(0), free(3), free(4), rule(15), free(3), drop(0), free(2), free(1))[5:],
                         [[2], [0], [-22], [0], [1], [1], [-22], [1]])

    def test_looking_changes_nothing(self):
        for call in (free(0), free(3), free(4), free(GREATEST)):
            self.assertTrue(changes_nothing(NOT_BOTH, call))


class MostFree(unittest.TestCase):
    def test_whole_list(self):
        self.assertEqual(answers(one_list([*NOT_BOTH, most_free()])), [1, 0, 1, 0, 1, 0, 1, 1, 3, 2, 1, 2])

    def test_no_deeds(self):
        for facts in range(1, 5):
            for states in (0, 1, 2 ** 2 ** facts - 1):
                self.assertEqual(answers(one_list([begin(facts), rule(states), most_free()])), [1, 0, 1, 0, 2, 1, 0])

    def test_several_of_one_size(self):
        self.assertEqual(last(*ONE_EACH, most_free()), [3, 3, 5, 6])
        self.assertEqual(last(*ONE_EACH_OF_FOUR, most_free()), [4, 7, 11, 13, 14])
        self.assertEqual(last(*TWO_AND_TWO, most_free()), [2, 3, 12])

    def test_several_sizes(self):
        self.assertEqual(last(*TWO_AND_ONE, most_free()), [2, 2, 5])

    def test_all_are_free(self):
        self.assertEqual(last(*SIX_ON_FOUR, most_free()), [1, 63])
        self.assertEqual(last(*NOT_BOTH, rule(0), most_free()), [1, 3])

    def test_one_fact_whatever_the_rule(self):
        for states in range(4):
            self.assertEqual(last(begin(1), rule(states), deed(0, 0, 1, 0), deed(0, 0, 0, 1), most_free()), [1, 3])

    def test_a_deed_that_changes_nothing_lies_in_all(self):
        self.assertEqual(last(*NOT_BOTH, deed(0, 0, 0, 0), most_free()), [2, 5, 6])

    def test_each_two_of_six_clash(self):
        # From 0 any two come together to what isn't let: just each deed alone is free.
        let = (0, 3, 5, 6, 9, 10, 12)
        ahead = [begin(4), rule(sum(2 ** s for s in let))] + [deed(15, 0, s, 0) for s in let[1:]]
        self.assertEqual(last(*ahead, most_free()), [6, 1, 2, 4, 8, 16, 32])

    def test_after_a_drop_and_another_rule(self):
        self.assertEqual(ask(*TWO_AND_ONE, drop(1), most_free(), rule(0), most_free(), begin(2), most_free())[5:],
                         [[2], [1, 3], [0], [1, 3], [0], [1, 0]])

    def test_looking_changes_nothing(self):
        for ahead in (NOT_BOTH, ONE_EACH, SIX_ON_FOUR):
            self.assertTrue(changes_nothing(ahead, most_free()))


class Asked(unittest.TestCase):
    def test_whole_list(self):
        self.assertEqual(answers(one_list([*NOT_BOTH, asked()])), [1, 0, 1, 0, 1, 0, 1, 1, 3, 1, 1, 2])

    def test_no_deeds(self):
        for facts in range(1, 5):
            for states in (0, 1, 2 ** 2 ** facts - 1):
                self.assertEqual(answers(one_list([begin(facts), rule(states), asked()])), [1, 0, 1, 0, 2, 0, 0])

    def test_none_need_be_asked(self):
        self.assertEqual(last(*SIX_ON_FOUR, asked()), [0, 0])
        self.assertEqual(last(*NOT_BOTH, rule(0), asked()), [0, 0])

    def test_several_sets_of_one_deed(self):
        self.assertEqual(last(*ONE_EACH, asked()), [1, 1, 2, 4])
        self.assertEqual(last(*ONE_EACH_OF_FOUR, asked()), [1, 1, 2, 4, 8])

    def test_several_sets_of_two_deeds(self):
        self.assertEqual(last(*TWO_AND_TWO, asked()), [2, 3, 12])

    def test_only_the_sets_of_the_fewest(self):
        # Without deeds 0 and 2 the rest is free too, but without deed 1 alone it is already.
        self.assertEqual(last(*TWO_AND_ONE, asked()), [1, 2])

    def test_all_but_one_of_six(self):
        let = (0, 3, 5, 6, 9, 10, 12)
        ahead = [begin(4), rule(sum(2 ** s for s in let))] + [deed(15, 0, s, 0) for s in let[1:]]
        self.assertEqual(last(*ahead, asked()), [5, 31, 47, 55, 59, 61, 62])

    def test_one_fact_whatever_the_rule(self):
        for states in range(4):
            self.assertEqual(last(begin(1), rule(states), deed(0, 0, 1, 0), deed(0, 0, 0, 1), asked()), [0, 0])

    def test_a_deed_that_changes_nothing(self):
        self.assertEqual(last(*NOT_BOTH, deed(0, 0, 0, 0), asked()), [1, 1, 2])

    def test_after_a_drop_and_another_rule(self):
        self.assertEqual(ask(*TWO_AND_TWO, drop(3), asked(), drop(2), asked(), begin(2), asked())[6:],
                         [[3], [1, 4], [2], [0, 0], [0], [0, 0]])
        self.assertEqual(ask(*ONE_EACH, rule(all_but(3, 3)), asked(), rule(255), asked())[5:],
                         [[0], [1, 1, 2], [0], [0, 0]])

    def test_looking_changes_nothing(self):
        for ahead in (NOT_BOTH, ONE_EACH, SIX_ON_FOUR):
            self.assertTrue(changes_nothing(ahead, asked()))


if __name__ == "__main__":
    unittest.main()
