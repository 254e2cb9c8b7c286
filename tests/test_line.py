"""The interface: one list of calls, one list of answers, and nothing kept or changed."""

import unittest

from calling import (
    GREATEST, all_but, ask, begin, broken, deed, deed_is, does, drop, keeps, let, one_list, reach, rule, together,
)
from keptapart.copies import answers

ALL_CALLS = [
    let(0), begin(3), rule(all_but(3, 7)), deed(7, 0, 1, 0), deed(7, 0, 2, 0), deed(0, 0, 0, 0), deed(7, 0, 4, 0),
    drop(2), deed_is(2), let(7), does(0, 1), does(3, 1), reach(0), together(0, 1, 2, 4), keeps(2), keeps(3), broken(2),
    broken(3), begin(0), begin(1), reach(1),
]
ALL_ANSWERS = [
    1, -61, 1, 0, 1, 0, 1, 0, 1, 1, 1, 2, 1, 3, 1, 3, 5, 4, 7, 0, 4, 0, 1, 0, 1, 2, 1, -6, 5, 4, 0, 1, 2, 4, 1, 7,
    1, 1, 1, 0, 1, -33, 5, 0, 1, 2, 4, 7, 1, -22, 1, 0, 2, 1, 1,
]


class OneList(unittest.TestCase):
    def test_every_call_in_one_list(self):
        self.assertEqual(answers(one_list(ALL_CALLS)), ALL_ANSWERS)

    def test_one_call(self):
        self.assertEqual(answers([0, 4]), [1, 0])
        self.assertEqual(answers([8, 0, 0]), [1, -61])

    def test_sixty_calls(self):
        self.assertEqual(answers([0, 1] + [7, 1] * 59), [1, 0] + [2, 1, 1] * 59)

    def test_as_many_numbers_as_may_be(self):
        calls = [8, 0, 4, 1, 2, 4, 8] * 60
        self.assertEqual(len(calls), 420)
        self.assertEqual(answers(calls), [1, -61] * 60)

    def test_sixty_calls_that_ask_for_much(self):
        deeds = [deed(0, 0, f, 0) for f in (1, 2, 4, 8)] + [deed(0, 0, 0, 15), deed(15, 15, 0, 1)]
        self.assertEqual(ask(begin(4), *deeds, *[keeps(4)] * 53)[7:], [[1]] * 53)

    def test_whole_numbers_in_a_list(self):
        given = answers(one_list(ALL_CALLS))
        self.assertIs(type(given), list)
        self.assertEqual({type(number) for number in given}, {int})


class NothingKept(unittest.TestCase):
    def test_the_list_is_left_as_it_was(self):
        calls = one_list(ALL_CALLS)
        ahead = list(calls)
        answers(calls)
        self.assertEqual(calls, ahead)

    def test_the_list_is_not_changed_for_a_while_either(self):
        class Fixed(list):
            def refuse(self, *told):
                raise AssertionError("the list handed in was changed")

            append = extend = insert = pop = remove = reverse = sort = clear = refuse
            __setitem__ = __delitem__ = __iadd__ = __imul__ = refuse

        self.assertEqual(answers(Fixed(one_list(ALL_CALLS))), ALL_ANSWERS)

    def test_a_second_time(self):
        calls = one_list(ALL_CALLS)
        self.assertEqual(answers(calls), answers(calls))
        self.assertEqual(answers(calls), ALL_ANSWERS)

    def test_what_is_given_back_is_new(self):
        calls = one_list(ALL_CALLS)
        answers(calls).clear()
        self.assertEqual(answers(calls), ALL_ANSWERS)

    def test_each_list_has_a_new_object(self):
        answers([0, 2])
        self.assertEqual(answers([5, 0]), [1, -61])


class Greatest(unittest.TestCase):
    def test_in_the_place_of_each_argument(self):
        g = GREATEST
        ahead = [begin(4), deed(0, 0, 1, 0)]
        for call, refusal in (
            (begin(g), -22), (rule(g), -22), (deed(g, 0, 0, 0), -22), (deed(0, g, 0, 0), -22), (deed(0, 0, g, 0), -22),
            (deed(0, 0, 0, g), -22), (drop(g), -2), (deed_is(g), -2), (let(g), -22), (does(g, 0), -22),
            (does(0, g), -2), (does(g, g), -2), (reach(g), -22), (together(g), -22), (together(0, g), -22),
            (together(0, 0, 0, 0, g), -22), (together(g, g, g, g, g), -22), (keeps(g), -22), (broken(g), -22),
        ):
            self.assertEqual(answers(one_list([*ahead, call])), [1, 0, 1, 0, 1, refusal], call)
            self.assertEqual(ask(*ahead, call, deed_is(0), deed_is(1), let(15))[3:], [[4, 0, 0, 1, 0], [-2], [1]])


if __name__ == "__main__":
    unittest.main()
