"""Point 4: clash and clashes."""

import unittest

from calling import (
    GREATEST, NOT_BOTH, ONE_EACH, ONE_EACH_OF_FOUR, all_but, ask, begin, changes_nothing, clash, clashes, deed, drop,
    last, one_list, rule,
)
from keptapart.copies import answers

# Deeds 0 and 1 clash from 0, and so do 2 and 3.
TWO_TWOS = [begin(4), rule(all_but(4, 3, 12))] + [deed(0, 0, f, 0) for f in (1, 2, 4, 8)]


class Clash(unittest.TestCase):
    def test_whole_list(self):
        calls = [*NOT_BOTH, clash(0, 1), clash(1, 0), clash(0, 0), clash(1, 1)]
        self.assertEqual(answers(one_list(calls)), [1, 0, 1, 0, 1, 0, 1, 1, 1, 0, 1, 0, 1, -33, 1, -33])

    def test_the_first_state_from_which_they_do(self):
        # From 0 they come together to 6, which is let; from 1 to 7, which isn't.
        ahead = [begin(3), rule(all_but(3, 7)), deed(0, 0, 2, 0), deed(0, 0, 4, 0)]
        self.assertEqual(last(*ahead, clash(0, 1)), [1])

    def test_the_first_of_several(self):
        ahead = [begin(3), rule(all_but(3, 6, 7)), deed(0, 0, 2, 0), deed(0, 0, 4, 0)]
        self.assertEqual(ask(*ahead, clash(0, 1), rule(all_but(3, 0, 6, 7)), clash(1, 0))[4::2], [[0], [1]])

    def test_only_from_a_state_that_is_let(self):
        ahead = [begin(2), rule(6), deed(3, 0, 1, 0), deed(3, 0, 2, 0)]
        self.assertEqual(last(*ahead, clash(0, 1)), [-33])

    def test_both_have_what_they_need(self):
        for ahead in ([deed(3, 0, 1, 0), deed(3, 1, 2, 0)], [deed(3, 1, 2, 0), deed(3, 0, 1, 0)]):
            self.assertEqual(last(begin(2), rule(7), *ahead, clash(0, 1)), [-33])

    def test_what_comes_of_each_is_let(self):
        # One of them alone comes to what isn't let, so it can't be done.
        ahead = [begin(2), deed(3, 0, 1, 0), deed(3, 0, 2, 0)]
        self.assertEqual(ask(*ahead, rule(5), clash(0, 1), rule(3), clash(0, 1), rule(7), clash(0, 1))[4::2],
                         [[-33], [-33], [0]])

    def test_facts_that_become_not_so(self):
        ahead = [begin(2), rule(all_but(2, 0)), deed(3, 3, 0, 1), deed(3, 3, 0, 2)]
        self.assertEqual(last(*ahead, clash(0, 1)), [3])

    def test_what_one_undoes_is_changed_by_no_copy(self):
        # From 0 deed 1 changes nothing, so what's put together is what deed 0 makes of it.
        self.assertEqual(last(begin(1), rule(3), deed(0, 0, 1, 0), deed(0, 0, 0, 1), clash(0, 1)), [-33])

    def test_needs_of_all_facts(self):
        for s in range(16):
            ahead = [begin(4), rule(all_but(4, s ^ 15)), deed(15, s, 3 & ~s, 3 & s), deed(15, s, 12 & ~s, 12 & s)]
            self.assertEqual(last(*ahead, clash(0, 1)), [s])

    def test_a_deed_that_changes_nothing(self):
        ahead = [begin(2), rule(7), deed(0, 0, 0, 0), deed(0, 0, 1, 0), deed(0, 0, 2, 0)]
        self.assertEqual(ask(*ahead, clash(0, 1), clash(0, 2), clash(2, 0), clash(1, 2))[5:],
                         [[-33], [-33], [-33], [0]])

    def test_two_that_do_the_same(self):
        ahead = [begin(2), rule(all_but(2, 3)), deed(3, 0, 1, 0), deed(3, 0, 1, 0)]
        self.assertEqual(last(*ahead, clash(0, 1)), [-33])

    def test_one_deed_each_and_not_several(self):
        # Two behind one another at a copy would break it with the third.
        ahead = [begin(3), rule(all_but(3, 7)), deed(7, 0, 1, 0), deed(7, 1, 2, 0), deed(7, 0, 4, 0)]
        twos = [clash(i, j) for i in range(3) for j in range(3)]
        self.assertEqual(ask(*ahead, *twos)[5:], [[-33]] * 9)

    def test_all_let_and_none_let_and_one_fact(self):
        deeds = [deed(0, 0, 1, 0), deed(0, 0, 0, 1)]
        for ahead in ([begin(2)], [begin(2), rule(0)], *[[begin(1), rule(states)] for states in range(4)]):
            self.assertEqual(last(*ahead, *deeds, clash(0, 1)), [-33])

    def test_after_a_drop_and_another_rule(self):
        self.assertEqual(ask(*TWO_TWOS, clash(0, 1), clash(1, 2), drop(0), clash(0, 1), clash(1, 2), drop(2),
                             clash(0, 1), rule(all_but(4, 6)), clash(0, 1))[6:],
                         [[0], [-33], [3], [-33], [0], [2], [-33], [0], [0]])

    def test_none_such_at_each_place(self):
        for i, j in ((2, 0), (0, 2), (2, 2), (GREATEST, 0), (0, GREATEST), (GREATEST, GREATEST), (6, 1)):
            self.assertEqual(last(*NOT_BOTH, clash(i, j)), [-2])
        self.assertEqual(ask(begin(1), clash(0, 0), clash(0, 1))[1:], [[-2], [-2]])

    def test_none_such_is_answered_ahead_of_no_clash(self):
        self.assertEqual(ask(begin(1), deed(0, 0, 1, 0), clash(0, 1), clash(1, 0), clash(0, 0))[2:],
                         [[-2], [-2], [-33]])

    def test_looking_changes_nothing(self):
        for call in (clash(0, 1), clash(0, 0), clash(0, 2), clash(2, 0), clashes()):
            self.assertTrue(changes_nothing(NOT_BOTH, call), call)


class Clashes(unittest.TestCase):
    def test_whole_list(self):
        self.assertEqual(answers(one_list([*NOT_BOTH, clashes()])), [1, 0, 1, 0, 1, 0, 1, 1, 3, 1, 0, 1])
        self.assertEqual(answers(one_list([begin(1), clashes()])), [1, 0, 1, 0])

    def test_two_twos(self):
        self.assertEqual(last(*TWO_TWOS, clashes()), [2, 0, 1, 2, 3])

    def test_in_order_of_the_first_then_of_the_second(self):
        # Of 6 deeds those with an even number clash with those with an odd one.
        ahead = [begin(2), rule(all_but(2, 3))] + [deed(0, 0, 1 + i % 2, 0) for i in range(6)]
        twos = [(i, j) for i in range(6) for j in range(i, 6) if i % 2 != j % 2]
        self.assertEqual(last(*ahead, clashes()), [9, *[number for two in twos for number in two]])

    def test_none_clash_though_they_break_the_rule(self):
        self.assertEqual(ask(*ONE_EACH, clashes())[5:], [[0]])
        self.assertEqual(ask(*ONE_EACH_OF_FOUR, clashes())[6:], [[0]])

    def test_no_deeds_one_fact_all_let_and_none_let(self):
        deeds = [deed(0, 0, 1, 0), deed(0, 0, 0, 1)]
        self.assertEqual(last(begin(4), rule(all_but(4, 15)), clashes()), [0])
        for ahead in ([begin(2)], [begin(2), rule(0)], *[[begin(1), rule(states)] for states in range(4)]):
            self.assertEqual(last(*ahead, *deeds, clashes()), [0])

    def test_a_deed_that_changes_nothing(self):
        ahead = [begin(2), rule(7), deed(0, 0, 0, 0), deed(0, 0, 1, 0), deed(0, 0, 2, 0)]
        self.assertEqual(last(*ahead, clashes()), [1, 1, 2])

    def test_after_a_drop_and_another_rule(self):
        self.assertEqual(ask(*TWO_TWOS, drop(0), clashes(), rule(all_but(4, 6, 12)), clashes(), begin(2), clashes())[6:],
                         [[3], [1, 1, 2], [0], [2, 0, 1, 1, 2], [0], [0]])


class WithItself(unittest.TestCase):
    def test_never(self):
        for states in range(16):
            for need, be, on, off in [(n, b, on, off) for n in range(4) for b in range(4) for on in range(4)
                                      for off in range(4) if b & n == b and on & off == 0]:
                given = ask(begin(2), rule(states), deed(need, be, on, off), clash(0, 0), clashes())
                self.assertEqual(given[3:], [[-33], [0]])


if __name__ == "__main__":
    unittest.main()
