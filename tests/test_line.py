"""The interface: one list of calls, one list of answers, and nothing kept or changed."""

import unittest

from calling import (
    GREATEST, all_but, alone, ask, asked, begin, broken, broken_at, changes_nothing, clash, clashes, closed, deed,
    deed_is, does, drop, fewest, free, keeps, let, most_free, one_list, open_states, reach, rule, state, together,
)
from keptapart.copies import answers

ALL_CALLS = [
    let(0), begin(3), rule(all_but(3, 7)), deed(7, 0, 1, 0), deed(7, 0, 2, 0), deed(0, 0, 0, 0), deed(7, 0, 4, 0),
    drop(2), deed_is(2), let(7), does(0, 1), does(3, 1), reach(0), together(0, 1, 2, 4), keeps(2), keeps(3), broken(2),
    broken(3), fewest(), broken_at(3, 0), broken_at(2, 0), broken_at(3, 7), clash(0, 1), clash(0, 3), clashes(), free(7),
    free(3), free(8), most_free(), asked(), alone(0), alone(3), closed(), open_states(), state(), rule(all_but(3, 3)),
    clash(0, 1), clashes(), asked(), begin(0), begin(1), reach(1), open_states(),
]
ALL_ANSWERS = [
    1, -61, 1, 0, 1, 0, 1, 0, 1, 1, 1, 2, 1, 3, 1, 3, 5, 4, 7, 0, 4, 0, 1, 0, 1, 2, 1, -6, 5, 4, 0, 1, 2, 4, 1, 7,
    1, 1, 1, 0, 1, -33, 5, 0, 1, 2, 4, 7,
    1, 3, 4, 7, 1, 2, 4, 1, -33, 1, -6, 1, -33, 1, -2, 1, 0, 1, 0, 1, 1, 1, -22, 4, 3, 3, 5, 6, 4, 1, 1, 2, 4,
    1, 1, 1, -2, 1, 0, 3, 0, 1, 6, 3, 3, 3, 7, 1, 0, 1, 0, 3, 1, 0, 1, 3, 1, 1, 2,
    1, -22, 1, 0, 2, 1, 1, 1, -33,
]
SIX_ON_FOUR = [deed(0, 0, f, 0) for f in (1, 2, 4, 8)] + [deed(0, 0, 0, 15), deed(15, 15, 0, 1)]


class OneList(unittest.TestCase):
    def test_every_call_in_one_list(self):
        self.assertEqual(answers(one_list(ALL_CALLS)), ALL_ANSWERS)

    def test_one_call(self):
        self.assertEqual(answers([0, 4]), [1, 0])
        self.assertEqual(answers([8, 0, 0]), [1, -61])

    def test_sixty_calls(self):
        self.assertEqual(answers([0, 1] + [7, 1] * 59), [1, 0] + [2, 1, 1] * 59)

    def test_as_many_numbers_as_may_be(self):
        calls = [8, 0, 4, 1, 2, 4, 8] * 60
        self.assertEqual(len(calls), 420)
        self.assertEqual(answers(calls), [1, -61] * 60)

    def test_sixty_calls_that_ask_for_much(self):
        for call, expected in (
            (keeps(4), [1]), (broken(4), [-33]), (fewest(), [-33]), (broken_at(4, 15), [-33]), (clashes(), [0]),
            (free(63), [1]), (most_free(), [1, 63]), (asked(), [0, 0]), (closed(), [1]), (open_states(), [-33]),
        ):
            self.assertEqual(ask(begin(4), *SIX_ON_FOUR, *[call] * 53)[7:], [expected] * 53)

    def test_sixty_calls_of_all_kinds(self):
        calls = ALL_CALLS + [begin(4), *SIX_ON_FOUR, rule(all_but(4, 3)), deed(0, 0, 0, 0), state(), clash(0, 1),
                             clashes(), most_free(), asked(), broken_at(2, 0), fewest()]
        self.assertEqual((len(calls), len({call[0] for call in calls})), (59, 22))
        self.assertEqual(answers(one_list([*calls, open_states()])), ALL_ANSWERS + [
            1, 0, 1, 0, 1, 1, 1, 2, 1, 3, 1, 4, 1, 5, 1, 0, 1, -28, 3, 4, 6, 15, 1, 0, 3, 1, 0, 1,
            3, 2, 61, 62, 3, 1, 1, 2, 3, 3, 1, 2, 1, 2, 3, 0, 1, 2,
        ])

    def test_whole_numbers_in_a_list(self):
        given = answers(one_list(ALL_CALLS))
        self.assertIs(type(given), list)
        self.assertEqual({type(number) for number in given}, {int})


class NothingKept(unittest.TestCase):
    def test_the_list_is_left_as_it_was(self):
        calls = one_list(ALL_CALLS)
        ahead = list(calls)
        answers(calls)
        self.assertEqual(calls, ahead)

    def test_the_list_is_not_changed_for_a_while_either(self):
        class Fixed(list):
            def refuse(self, *told):
                raise AssertionError("the list handed in was changed")

            append = extend = insert = pop = remove = reverse = sort = clear = refuse
            __setitem__ = __delitem__ = __iadd__ = __imul__ = refuse

        self.assertEqual(answers(Fixed(one_list(ALL_CALLS))), ALL_ANSWERS)

    def test_a_second_time(self):
        calls = one_list(ALL_CALLS)
        self.assertEqual(answers(calls), answers(calls))
        self.assertEqual(answers(calls), ALL_ANSWERS)

    def test_what_is_given_back_is_new(self):
        calls = one_list(ALL_CALLS)
        answers(calls).clear()
        self.assertEqual(answers(calls), ALL_ANSWERS)

    def test_each_list_has_a_new_object(self):
        answers([0, 2])
        self.assertEqual(answers([5, 0]), [1, -61])


class Greatest(unittest.TestCase):
    def test_in_the_place_of_each_argument(self):
        g = GREATEST
        ahead = [begin(4), deed(0, 0, 1, 0)]
        for call, refusal in (
            (begin(g), -22), (rule(g), -22), (deed(g, 0, 0, 0), -22), (deed(0, g, 0, 0), -22), (deed(0, 0, g, 0), -22),
            (deed(0, 0, 0, g), -22), (drop(g), -2), (deed_is(g), -2), (let(g), -22), (does(g, 0), -22),
            (does(0, g), -2), (does(g, g), -2), (reach(g), -22), (together(g), -22), (together(0, g), -22),
            (together(0, 0, 0, 0, g), -22), (together(g, g, g, g, g), -22), (keeps(g), -22), (broken(g), -22),
            (broken_at(g, 0), -22), (broken_at(1, g), -22), (broken_at(g, g), -22), (clash(g, 0), -2),
            (clash(0, g), -2), (clash(g, g), -2), (free(g), -22), (alone(g), -2),
        ):
            self.assertEqual(answers(one_list([*ahead, call])), [1, 0, 1, 0, 1, refusal], call)
            self.assertTrue(changes_nothing(ahead, call), call)


if __name__ == "__main__":
    unittest.main()
