"""What is answered, against the document's words said once more, over many objects and many lists of calls."""

import unittest

from calling import (
    alone, ask, asked, begin, broken, broken_at, clash, clashes, closed, deed, does, fewest, free, keeps, most_free,
    one_list, open_states, reach, rule, state, together,
)
from keptapart.copies import answers
from words import NAMES, Line, Numbers, Words, as_number, as_set, chosen_calls, chosen_object


class AsTheWordsSay(unittest.TestCase):
    def check(self, facts, states, deeds, numbers):
        words = Words(facts, states, deeds)
        ahead = [begin(facts), rule(states), *[deed(*told) for told in deeds]]
        count = 2 ** facts
        given = ask(*ahead, *[reach(s) for s in range(count)])[len(ahead):]
        reached = [words.reach(as_set(s)) for s in range(count)]
        self.assertEqual(given, [[len(found), *found] for found in reached])

        places = [(numbers.below(count), i) for i in range(len(deeds)) for again in range(3)]
        given = ask(*ahead, *[does(s, i) for s, i in places])[len(ahead):]
        self.assertEqual(given, [[words.does(as_set(s), words.deeds[i])] for s, i in places])

        rows = [[numbers.below(count) for y in range(1 + length)] for length in range(5)]
        given = ask(*ahead, *[together(*row) for row in rows])[len(ahead):]
        expected = [words.together(as_set(row[0]), [as_set(y) for y in row[1:]]) for row in rows]
        self.assertEqual(given, [[as_number(s)] for s in expected])

        first = [words.broken(k) for k in range(1, 5)]
        given = ask(*ahead, *[broken(k) for k in range(1, 5)], *[keeps(k) for k in range(1, 5)])[len(ahead):]
        self.assertEqual(given[:4], first)
        self.assertEqual(given[4:], [[1] if found == [-33] else [0] for found in first])
        self.check_breaks(words, ahead)
        self.check_deeds(words, ahead)
        return words.fewest()

    def check_breaks(self, words, ahead):
        places = [(k, as_number(s)) for k in range(1, 5) for s in words.states[::len(words.states) // 8 + 1]]
        given = ask(*ahead, *[broken_at(k, s) for k, s in places])[len(ahead):]
        self.assertEqual(given, [words.broken_at(k, as_set(s)) if as_set(s) in words.let else [-6] for k, s in places])
        opening = words.opening()
        self.assertEqual(ask(*ahead, fewest(), closed(), open_states(), state())[len(ahead):],
                         [[words.fewest()], [int(opening == [-33])], opening,
                          [words.facts, len(words.deeds), len(words.let)]])

    def check_deeds(self, words, ahead):
        count = len(words.deeds)
        twos = [(i, j) for i in range(count) for j in range(count)]
        self.assertEqual(ask(*ahead, *[clash(i, j) for i, j in twos])[len(ahead):],
                         [[words.clash(i, j)] for i, j in twos])
        found = words.clashes()
        self.assertEqual(ask(*ahead, clashes())[-1], [len(found), *[i for two in found for i in two]])
        sets = words.free_sets()
        for first in range(0, 2 ** count, 32):
            some = range(first, min(first + 32, 2 ** count))
            self.assertEqual(ask(*ahead, *[free(x) for x in some])[len(ahead):], [[int(x in sets)] for x in some])
        self.assertEqual(ask(*ahead, *[alone(i) for i in range(count)])[len(ahead):],
                         [[int(2 ** i in sets)] for i in range(count)])
        most = words.most_free()
        self.assertEqual(ask(*ahead, most_free(), asked())[len(ahead):], [[len(most), *most], words.asked()])

    def test_many_objects(self):
        numbers = Numbers(1)
        seen = {}
        for facts in (1, 2, 2, 3, 3, 3, 4, 4, 4, 4):
            for again in range(30):
                states, deeds = chosen_object(numbers, facts, numbers.below(7))
                with self.subTest(facts=facts, states=states, deeds=deeds):
                    by = self.check(facts, states, deeds, numbers)
                    seen[by] = seen.get(by, 0) + 1
        # Objects that keep the rule, and that break it by two, three and four copies, all have to be among them.
        self.assertTrue(all(by in seen for by in (2, 3, 4, -33)), seen)

    def test_every_rule_of_two_facts(self):
        numbers = Numbers(2)
        sets_of_deeds = [
            [],
            [(0, 0, 1, 0), (0, 0, 2, 0)],
            [(0, 0, 0, 1), (0, 0, 0, 2)],
            [(1, 1, 0, 1), (2, 0, 2, 0), (3, 2, 1, 0)],
            [(0, 0, 1, 2), (0, 0, 2, 1), (0, 0, 0, 3), (0, 0, 3, 0)],
        ]
        for states in range(16):
            for deeds in sets_of_deeds:
                with self.subTest(states=states, deeds=deeds):
                    self.check(2, states, deeds, numbers)


class ListsOfCalls(unittest.TestCase):
    def test_sixty_calls_of_all_kinds_in_any_order(self):
        numbers = Numbers(5)
        answered = {}
        refused = {}
        for again in range(150):
            calls = chosen_calls(numbers, 60)
            line = Line()
            expected = [line.answer(call) for call in calls]
            whole = [number for answer in expected for number in (len(answer), *answer)]
            with self.subTest(again=again):
                self.assertEqual(answers(one_list(calls)), whole)
            for call, answer in zip(calls, expected):
                if answer[0] >= 0:
                    answered[NAMES[call[0]]] = True
                else:
                    refused[NAMES[call[0]], answer[0]] = True
        # What the lists have to hold, so that the test is one of all calls and all refusals.
        self.assertEqual(sorted(answered), sorted(NAMES))
        self.assertEqual(sorted(name for name, number in refused if number == -61), sorted(NAMES[1:]))
        self.assertEqual(sorted(two for two in refused if two[1] != -61), [
            ("alone", -2), ("begin", -22), ("broken", -33), ("broken", -22), ("broken_at", -33), ("broken_at", -22),
            ("broken_at", -6), ("clash", -33), ("clash", -2), ("deed", -28), ("deed", -22), ("deed_is", -2),
            ("does", -33), ("does", -22), ("does", -6), ("does", -2), ("drop", -2), ("fewest", -33), ("free", -22),
            ("keeps", -22), ("let", -22), ("open_states", -33), ("reach", -22), ("rule", -22), ("together", -22),
        ])

    def test_one_call(self):
        numbers = Numbers(6)
        for again in range(300):
            calls = chosen_calls(numbers, 1)
            expected = Line().answer(calls[0])
            self.assertEqual(answers(one_list(calls)), [len(expected), *expected])


if __name__ == "__main__":
    unittest.main()
