"""The document's words, said once more with sets of facts, against what is answered of many objects."""

import itertools
import unittest

from calling import ask, begin, broken, deed, does, keeps, reach, rule, together


class Numbers:
    """A row of numbers that is the same each time, so that a test that fails fails again."""

    def __init__(self, first):
        self.now = first

    def below(self, end):
        self.now = (self.now * 6364136223846793005 + 1442695040888963407) % 2 ** 64
        return (self.now >> 33) % end


def as_set(number):
    return frozenset(f for f in range(number.bit_length()) if number >> f & 1)


def as_number(facts):
    return sum(2 ** f for f in facts)


def chosen_deed(numbers, facts):
    """More facts make a deed rarer to be done: two of three deeds need few."""
    need = be = on = off = 0
    for f in range(facts):
        if numbers.below(3) == 0:
            need += 2 ** f
            be += 2 ** f * numbers.below(2)
        change = numbers.below(4)
        if change == 0:
            on += 2 ** f
        if change == 1:
            off += 2 ** f
    return need, be, on, off


class Words:
    def __init__(self, facts, states, deeds):
        self.let = {as_set(s) for s in range(2 ** facts) if states >> s & 1}
        self.states = [as_set(s) for s in range(2 ** facts)]
        self.deeds = [tuple(as_set(part) for part in told) for told in deeds]

    def does(self, s, told):
        need, be, on, off = told
        if {f for f in s if f in need} != be:
            return -6
        after = frozenset(f for f in s | on if f not in off)
        return as_number(after) if after in self.let else -33

    def reach(self, s):
        found = {s}
        while True:
            more = {as_set(y) for x in found for told in self.deeds for y in [self.does(x, told)] if y >= 0} - found
            if not more:
                return sorted(as_number(x) for x in found)
            found |= more

    def together(self, s, row):
        changed = frozenset().union(*[s.symmetric_difference(y) for y in row])
        return s.symmetric_difference(changed)

    def broken(self, k):
        for s in [s for s in self.states if s in self.let]:
            for row in itertools.combinations_with_replacement(self.reach(s), k):
                joined = self.together(s, [as_set(y) for y in row])
                if joined not in self.let:
                    return [as_number(s), *row, as_number(joined)]
        return [-33]


class AsTheWordsSay(unittest.TestCase):
    def check(self, facts, states, deeds, numbers):
        words = Words(facts, states, deeds)
        ahead = [begin(facts), rule(states), *[deed(*told) for told in deeds]]
        count = 2 ** facts
        given = ask(*ahead, *[reach(s) for s in range(count)])[len(ahead):]
        reached = [words.reach(as_set(s)) for s in range(count)]
        self.assertEqual(given, [[len(found), *found] for found in reached])

        places = [(numbers.below(count), i) for i in range(len(deeds)) for again in range(3)]
        given = ask(*ahead, *[does(s, i) for s, i in places])[len(ahead):]
        self.assertEqual(given, [[words.does(as_set(s), words.deeds[i])] for s, i in places])

        rows = [[numbers.below(count) for y in range(1 + length)] for length in range(5)]
        given = ask(*ahead, *[together(*row) for row in rows])[len(ahead):]
        expected = [words.together(as_set(row[0]), [as_set(y) for y in row[1:]]) for row in rows]
        self.assertEqual(given, [[as_number(s)] for s in expected])

        first = [words.broken(k) for k in range(1, 5)]
        given = ask(*ahead, *[broken(k) for k in range(1, 5)], *[keeps(k) for k in range(1, 5)])[len(ahead):]
        self.assertEqual(given[:4], first)
        self.assertEqual(given[4:], [[1] if found == [-33] else [0] for found in first])
        return first

    def test_many_objects(self):
        numbers = Numbers(1)
        fewest = {}
        for facts in (1, 2, 2, 3, 3, 3, 4, 4, 4, 4):
            for again in range(30):
                # Few states that aren't let leave copies more room to come to different states.
                states = 2 ** 2 ** facts - 1
                for forbidden in range(1 + numbers.below(4)):
                    states &= ~(1 << numbers.below(2 ** facts))
                deeds = [chosen_deed(numbers, facts) for i in range(numbers.below(7))]
                with self.subTest(facts=facts, states=states, deeds=deeds):
                    first = self.check(facts, states, deeds, numbers)
                    by = [found == [-33] for found in first].count(True) + 1
                    fewest[by] = fewest.get(by, 0) + 1
        # Objects that keep the rule, and that break it by two copies and by three, all have to be among them.
        self.assertTrue(all(by in fewest for by in (2, 3, 5)), fewest)

    def test_every_rule_of_two_facts(self):
        numbers = Numbers(2)
        sets_of_deeds = [
            [],
            [(0, 0, 1, 0), (0, 0, 2, 0)],
            [(0, 0, 0, 1), (0, 0, 0, 2)],
            [(1, 1, 0, 1), (2, 0, 2, 0), (3, 2, 1, 0)],
            [(0, 0, 1, 2), (0, 0, 2, 1), (0, 0, 0, 3), (0, 0, 3, 0)],
        ]
        for states in range(16):
            for deeds in sets_of_deeds:
                with self.subTest(states=states, deeds=deeds):
                    self.check(2, states, deeds, numbers)


class WhatHolds(unittest.TestCase):
    def test_fewer_copies_and_fewer_deeds_are_no_worse(self):
        numbers = Numbers(3)
        for again in range(60):
            ahead = [begin(3), rule(numbers.below(256))]
            deeds = [deed(*chosen_deed(numbers, 3)) for i in range(4)]
            kept = [keeps(k) for k in range(1, 5)]
            by_all = [given[0] for given in ask(*ahead, *deeds, *kept)[6:]]
            by_fewer = [given[0] for given in ask(*ahead, *deeds[:3], *kept)[5:]]
            self.assertEqual(by_all, sorted(by_all, reverse=True))
            self.assertTrue(all(few >= more for few, more in zip(by_fewer, by_all)))

    def test_as_many_copies_as_facts_tell_of_all(self):
        numbers = Numbers(4)
        for again in range(60):
            facts = 1 + numbers.below(3)
            ahead = [begin(facts), rule(numbers.below(2 ** 2 ** facts))]
            ahead += [deed(*chosen_deed(numbers, facts)) for i in range(4)]
            given = ask(*ahead, *[keeps(k) for k in range(facts, 5)])[len(ahead):]
            self.assertEqual(given, [given[0]] * len(given))


if __name__ == "__main__":
    unittest.main()
