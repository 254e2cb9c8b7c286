"""Point 1: begin, rule, deed, drop, deed_is, state; and what is answered till a begin is answered 0."""

import unittest

from calling import (
    GREATEST, LOOK, all_but, alone, ask, asked, begin, broken, broken_at, changes_nothing, clash, clashes, closed, deed,
    deed_is, does, drop, fewest, free, keeps, last, let, most_free, one_list, open_states, reach, rule, state, together,
)
from keptapart.copies import answers

OTHERS = [
    rule(1), deed(0, 0, 1, 0), drop(0), deed_is(0), let(0), does(0, 0), reach(0), together(0, 1), keeps(1), broken(1),
    fewest(), broken_at(1, 0), clash(0, 0), clashes(), free(0), most_free(), asked(), alone(0), closed(), open_states(),
    state(),
]
WRONG_OTHERS = [
    rule(GREATEST), deed(GREATEST, 0, 0, 0), drop(GREATEST), deed_is(GREATEST), let(GREATEST),
    does(GREATEST, GREATEST), reach(GREATEST), together(GREATEST), keeps(GREATEST), broken(GREATEST),
    broken_at(GREATEST, GREATEST), clash(GREATEST, GREATEST), free(GREATEST), alone(GREATEST),
]


class NotBegun(unittest.TestCase):
    def test_every_other_call_is_refused(self):
        for call in OTHERS + WRONG_OTHERS:
            self.assertEqual(answers(call), [1, -61], call)
            self.assertEqual(answers(one_list([begin(5), call])), [1, -22, 1, -61], call)

    def test_a_refused_begin_begins_nothing(self):
        self.assertEqual(answers(one_list([begin(0), let(0), begin(5), let(0)])), [1, -22, 1, -61, 1, -22, 1, -61])

    def test_what_was_refused_ahead_of_begin_changes_nothing(self):
        for call in OTHERS:
            self.assertEqual(ask(call, begin(2), *LOOK)[1:], ask(begin(2), *LOOK), call)


class Begin(unittest.TestCase):
    def test_one_to_four_facts(self):
        for facts in range(1, 5):
            self.assertEqual(answers(begin(facts)), [1, 0])

    def test_no_facts_and_too_many(self):
        for facts in (0, 5, 6, GREATEST):
            self.assertEqual(answers(begin(facts)), [1, -22])

    def test_all_states_are_let_and_others_are_none(self):
        for facts in range(1, 5):
            count = 2 ** facts
            given = ask(begin(facts), *[let(s) for s in range(count)], let(count))
            self.assertEqual(given, [[0]] + [[1]] * count + [[-22]])

    def test_no_deeds(self):
        self.assertEqual(ask(begin(3), deed_is(0), drop(0), reach(5)), [[0], [-2], [-2], [1, 5]])

    def test_again_it_is_as_new(self):
        ahead = [begin(3), rule(5), deed(1, 1, 2, 0), deed(0, 0, 4, 0)]
        for facts in range(1, 5):
            self.assertEqual(ask(*ahead, begin(facts), *LOOK)[len(ahead):], ask(begin(facts), *LOOK))

    def test_again_refused_it_changes_nothing(self):
        ahead = [begin(3), rule(5), deed(1, 1, 2, 0), deed(0, 0, 4, 0)]
        for facts in (0, 5, GREATEST):
            self.assertEqual(last(*ahead, begin(facts)), [-22])
            self.assertTrue(changes_nothing(ahead, begin(facts)))


class Rule(unittest.TestCase):
    def test_those_states_are_let(self):
        given = answers(one_list([begin(2), rule(11), let(0), let(1), let(2), let(3)]))
        self.assertEqual(given, [1, 0, 1, 0, 1, 1, 1, 1, 1, 0, 1, 1])

    def test_all_let_and_none_let(self):
        for facts in range(1, 5):
            count = 2 ** facts
            looks = [let(s) for s in range(count)]
            self.assertEqual(ask(begin(facts), rule(2 ** count - 1), *looks)[1:], [[0]] + [[1]] * count)
            self.assertEqual(ask(begin(facts), rule(0), *looks)[1:], [[0]] + [[0]] * count)

    def test_a_later_rule_stands_in_the_place_of_an_earlier(self):
        self.assertEqual(ask(begin(1), rule(1), rule(2), let(0), let(1))[3:], [[0], [1]])

    def test_other_states_are_refused_and_change_nothing(self):
        for facts in range(1, 5):
            for states in (2 ** 2 ** facts, 2 ** 2 ** facts + 1, GREATEST):
                ahead = [begin(facts), rule(2)]
                self.assertEqual(last(*ahead, rule(states)), [-22])
                self.assertTrue(changes_nothing(ahead, rule(states)))

    def test_deeds_stay(self):
        self.assertEqual(last(begin(2), deed(1, 1, 2, 0), rule(3), deed_is(0)), [4, 1, 1, 2, 0])


class DeedAdded(unittest.TestCase):
    def test_its_number_and_its_four_sets(self):
        calls = [begin(4), deed(3, 1, 4, 8), deed(15, 15, 0, 15), deed_is(0), deed_is(1)]
        self.assertEqual(answers(one_list(calls)), [1, 0, 1, 0, 1, 1, 5, 4, 3, 1, 4, 8, 5, 4, 15, 15, 0, 15])

    def test_the_same_deed_may_come_again(self):
        self.assertEqual(ask(begin(1), deed(0, 0, 1, 0), deed(0, 0, 1, 0)), [[0], [0], [1]])

    def test_a_deed_that_changes_nothing(self):
        self.assertEqual(ask(begin(1), deed(0, 0, 0, 0), deed_is(0)), [[0], [0], [4, 0, 0, 0, 0]])

    def test_just_the_deeds_as_told_are_taken(self):
        for facts in (1, 2):
            sets = range(2 ** facts + 2)
            for told in [(n, b, on, off) for n in sets for b in sets for on in sets for off in sets]:
                known = all(part < 2 ** facts for part in told)
                lies_in = all(told[0] // 2 ** f % 2 or not told[1] // 2 ** f % 2 for f in range(4))
                apart = not any(told[2] // 2 ** f % 2 and told[3] // 2 ** f % 2 for f in range(4))
                expected = [0] if known and lies_in and apart else [-22]
                self.assertEqual(last(begin(facts), deed(*told)), expected, (facts, told))

    def test_other_facts_in_each_of_the_four(self):
        for facts in range(1, 5):
            for other in (2 ** facts, GREATEST):
                for told in ((other, 0, 0, 0), (0, other, 0, 0), (other, other, 0, 0), (0, 0, other, 0),
                             (0, 0, 0, other)):
                    self.assertEqual(ask(begin(facts), deed(*told), deed_is(0))[1:], [[-22], [-2]])

    def test_six_at_most(self):
        six = [deed(0, 0, i % 4, 0) for i in range(6)]
        given = ask(begin(2), *six, deed(0, 0, 1, 0), deed_is(6), deed_is(5))
        self.assertEqual(given, [[0], [0], [1], [2], [3], [4], [5], [-28], [-2], [4, 0, 0, 1, 0]])

    def test_no_deed_as_told_is_answered_ahead_of_six(self):
        ahead = [begin(2)] + [deed(0, 0, i % 4, 0) for i in range(6)]
        for told in ((0, 1, 0, 0), (0, 0, 1, 1), (4, 0, 0, 0), (GREATEST,) * 4):
            self.assertEqual(last(*ahead, deed(*told)), [-22])

    def test_refused_it_changes_nothing(self):
        ahead = [begin(2), rule(11)] + [deed(0, 0, i % 4, 0) for i in range(6)]
        for told in ((0, 1, 0, 0), (0, 0, 1, 1), (0, 0, 1, 0)):
            self.assertTrue(changes_nothing(ahead, deed(*told)))


class Drop(unittest.TestCase):
    def test_those_behind_it_are_numbered_one_less(self):
        calls = [
            begin(2), deed(0, 0, 1, 0), deed(0, 0, 2, 0), deed(0, 0, 3, 0), drop(1), deed_is(0), deed_is(1), deed_is(2),
            deed(0, 0, 0, 1),
        ]
        self.assertEqual(ask(*calls)[4:], [[2], [4, 0, 0, 1, 0], [4, 0, 0, 3, 0], [-2], [2]])

    def test_first_and_last(self):
        ahead = [begin(1), deed(0, 0, 1, 0), deed(0, 0, 0, 1)]
        self.assertEqual(ask(*ahead, drop(0), deed_is(0))[3:], [[1], [4, 0, 0, 0, 1]])
        self.assertEqual(ask(*ahead, drop(1), deed_is(0))[3:], [[1], [4, 0, 0, 1, 0]])

    def test_to_the_last_one(self):
        calls = [begin(1), deed(0, 0, 1, 0), drop(0), drop(0), reach(0)]
        self.assertEqual(answers(one_list(calls)), [1, 0, 1, 0, 1, 0, 1, -2, 2, 1, 0])

    def test_there_is_room_again(self):
        six = [deed(0, 0, 1, 0) for i in range(6)]
        self.assertEqual(ask(begin(1), *six, drop(3), deed(0, 0, 0, 1), deed(0, 0, 0, 1))[7:], [[5], [5], [-28]])

    def test_none_such_changes_nothing(self):
        ahead = [begin(2), rule(all_but(2, 3)), deed(0, 0, 1, 0), deed(1, 1, 2, 1)]
        for i in (2, 6, GREATEST):
            self.assertEqual(last(*ahead, drop(i)), [-2])
            self.assertTrue(changes_nothing(ahead, drop(i)))


class DeedIs(unittest.TestCase):
    def test_none_such(self):
        for i in (1, 2, GREATEST):
            self.assertEqual(last(begin(1), deed(0, 0, 1, 0), deed_is(i)), [-2])

    def test_looking_changes_nothing(self):
        ahead = [begin(2), deed(3, 2, 1, 2)]
        self.assertEqual(ask(*ahead, deed_is(0), deed_is(0))[2:], [[4, 3, 2, 1, 2]] * 2)


class State(unittest.TestCase):
    def test_facts_then_deeds_then_states_let(self):
        calls = [begin(4), state(), rule(7), deed(0, 0, 1, 0), deed(0, 0, 2, 0), state()]
        self.assertEqual(answers(one_list(calls)), [1, 0, 3, 4, 0, 16, 1, 0, 1, 0, 1, 1, 3, 4, 2, 3])

    def test_as_begun(self):
        for facts in range(1, 5):
            self.assertEqual(answers(one_list([begin(facts), state()])), [1, 0, 3, facts, 0, 2 ** facts])

    def test_all_let_and_none_let(self):
        for facts in range(1, 5):
            given = ask(begin(facts), rule(0), state(), rule(2 ** 2 ** facts - 1), state())
            self.assertEqual(given[2::2], [[facts, 0, 0], [facts, 0, 2 ** facts]])

    def test_every_rule_of_three_facts(self):
        for states in range(256):
            self.assertEqual(last(begin(3), rule(states), state()), [3, 0, bin(states).count("1")])

    def test_the_last_state_alone(self):
        self.assertEqual(last(begin(4), rule(2 ** 15), state()), [4, 0, 1])

    def test_deeds_that_come_and_go(self):
        calls = [begin(1)] + [deed(0, 0, 1, 0), state()] * 7 + [drop(0), state(), drop(9), state(), begin(2), state()]
        given = ask(*calls)
        self.assertEqual(given[2:15:2], [[1, n, 2] for n in (1, 2, 3, 4, 5, 6, 6)])
        self.assertEqual(given[15:], [[5], [1, 5, 2], [-2], [1, 5, 2], [0], [2, 0, 4]])

    def test_what_is_refused_does_not_count(self):
        calls = [begin(2), rule(11), rule(16), begin(5), deed(0, 1, 0, 0), drop(0), state()]
        self.assertEqual(last(*calls), [2, 0, 3])

    def test_looking_changes_nothing(self):
        self.assertTrue(changes_nothing([begin(2), rule(11), deed(3, 2, 1, 2)], state()))


if __name__ == "__main__":
    unittest.main()
