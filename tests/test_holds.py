"""What holds, a to e, over many rules and deeds; told by the calls alone."""

import itertools
import unittest

from calling import (
    GREATEST, LOOK, alone, ask, asked, begin, broken, broken_at, clash, clashes, closed, deed, does, drop, fewest, free,
    keeps, last, let, most_free, open_states, reach, rule, state, together,
)
from words import Numbers, chosen_deed, chosen_object, leap


def many_objects(first, most_facts=4, again=40, deeds=5):
    """The calls that make each object, and how many facts and deeds it has."""
    numbers = Numbers(first)
    for facts in range(1, most_facts + 1):
        for time in range(again):
            count = numbers.below(deeds + 1)
            states, told = chosen_object(numbers, facts, count)
            if time % 8 == 0:
                states = numbers.below(2 ** 2 ** facts)
            yield [begin(facts), rule(states), *[deed(*four) for four in told]], facts, count


def looks(ahead, *calls):
    return ask(*ahead, *calls)[len(ahead):]


def sets_that_are_free(ahead, count):
    return [x for x in range(2 ** count) if last(*ahead, free(x)) == [1]]


class AsManyCopiesAsFactsTellOfAll(unittest.TestCase):
    def test_more_copies_than_facts(self):
        for ahead, facts, count in many_objects(11):
            kept = looks(ahead, *[keeps(k) for k in range(facts, 5)])
            self.assertEqual(kept, [kept[0]] * len(kept))

    def test_fewest_is_no_more_than_facts(self):
        for ahead, facts, count in many_objects(12):
            kept = [answer[0] for answer in looks(ahead, *[keeps(k) for k in range(1, 5)])]
            by = looks(ahead, fewest())[0][0]
            self.assertEqual(by, kept.index(0) + 1 if 0 in kept else -33)
            self.assertLessEqual(by, facts)

    def test_however_many(self):
        # One copy more for each state to which one may come, put together with what came together already.
        for ahead, facts, count in many_objects(13, 3, 25):
            kept = looks(ahead, keeps(facts))[0]
            for s in range(2 ** facts):
                come = {s}
                reached = looks(ahead, reach(s))[0][1:]
                for y in reached:
                    row = sorted(come)
                    come |= {answer[0] for answer in looks(ahead, *[together(s, x, y) for x in row])}
                is_broken = [0] in looks(ahead, *[let(x) for x in sorted(come)])
                if last(*ahead, let(s)) == [1] and kept == [1]:
                    self.assertFalse(is_broken)
                if last(*ahead, let(s)) == [1]:
                    self.assertEqual(is_broken, last(*ahead, broken_at(facts, s)) != [-33])


class KeptWhateverComesTogether(unittest.TestCase):
    def walk(self, numbers, ahead, s, count):
        """To what a copy comes from s by some deeds, done one behind another."""
        for step in range(6):
            came = last(*ahead, does(s, numbers.below(count)))[0]
            s = came if came >= 0 else s
        return s

    def test_if_the_rule_is_kept(self):
        numbers = Numbers(20)
        seen = {}
        for ahead, facts, count in many_objects(21, 4, 30):
            by = last(*ahead, fewest())[0]
            s = numbers.below(2 ** facts)
            if count == 0 or last(*ahead, let(s)) == [0]:
                continue
            for copies in range(1, 5):
                row = [self.walk(numbers, ahead, s, count) for copy in range(copies)]
                joined = last(*ahead, together(s, *row))[0]
                if by == -33 or copies < by:
                    self.assertEqual(last(*ahead, let(joined)), [1])
                seen[last(*ahead, let(joined))[0]] = True
        # Some walks have to break a rule that isn't kept, or this would tell nothing.
        self.assertEqual(sorted(seen), [0, 1])

    def test_just_then(self):
        for ahead, facts, count in many_objects(22):
            by = last(*ahead, fewest())[0]
            if by == -33:
                continue
            s, *row = last(*ahead, broken(by))
            joined = row.pop()
            self.assertEqual(looks(ahead, let(s), let(joined), together(s, *row)), [[1], [0], [joined]])
            self.assertEqual(last(*ahead, broken_at(by, s)), [joined, *row])
            self.assertTrue(set(row) <= set(last(*ahead, reach(s))[1:]))

    def test_broken_is_broken_at_the_first_state(self):
        for ahead, facts, count in many_objects(23, 4, 20):
            for k in range(1, 5):
                at = looks(ahead, *[broken_at(k, s) for s in range(2 ** facts)])
                first = [[s, *answer[1:], answer[0]] for s, answer in enumerate(at) if answer[0] >= 0]
                self.assertEqual(last(*ahead, broken(k)), first[0] if first else [-33])


class ClosedRules(unittest.TestCase):
    def test_no_asking_whatever_the_deeds(self):
        numbers = Numbers(31)
        seen = 0
        for facts, rules in ((1, range(4)), (2, range(16)), (3, range(256)), (4, range(0, 65536, 257))):
            for states in rules:
                if last(begin(facts), rule(states), closed()) == [0]:
                    continue
                seen += 1
                deeds = [deed(*chosen_deed(numbers, facts)) for i in range(6)]
                given = looks([begin(facts), rule(states), *deeds], fewest(), clashes(), most_free(), asked(), keeps(4))
                self.assertEqual(given, [[-33], [0], [1, 63], [0, 0], [1]])
        self.assertGreater(seen, 50)

    def test_if_not_some_two_deeds_break_it_by_two_copies(self):
        seen = 0
        for facts, rules in ((1, range(4)), (2, range(16)), (3, range(256)), (4, range(0, 65536, 257))):
            for states in rules:
                s, *two = last(begin(facts), rule(states), open_states())
                if s < 0:
                    continue
                seen += 1
                deeds = [deed(*leap(facts, s, y)) for y in two]
                joined = last(begin(facts), together(s, *two))[0]
                given = looks([begin(facts), rule(states), *deeds], keeps(2), fewest(), broken_at(2, s), clash(0, 1),
                              most_free(), asked(), let(joined))
                self.assertEqual(given, [[0], [2], [joined, *two], [s], [2, 1, 2], [1, 1, 2], [0]])
        self.assertGreater(seen, 50)


class Asking(unittest.TestCase):
    def test_what_is_asked_for_leaves_the_rest_free_and_no_fewer_will_do(self):
        sizes = {}
        for ahead, facts, count in many_objects(41, 4, 25, 5):
            fewest_deeds, *sets = last(*ahead, asked())
            whole = 2 ** count - 1
            frees = sets_that_are_free(ahead, count)
            leaves = [x for x in range(2 ** count) if whole - x in frees]
            self.assertEqual(fewest_deeds, min(bin(x).count("1") for x in leaves))
            self.assertEqual(sets, [x for x in leaves if bin(x).count("1") == fewest_deeds])
            sizes[fewest_deeds] = True
        self.assertTrue({0, 1, 2} <= set(sizes), sizes)

    def test_most_free_are_those_in_no_greater_one(self):
        for ahead, facts, count in many_objects(42, 4, 25, 5):
            frees = sets_that_are_free(ahead, count)
            most = [x for x in frees if not any(x != y and x & y == x for y in frees)]
            self.assertEqual(last(*ahead, most_free()), [len(most), *most])

    def test_two_that_clash_are_not_free_together(self):
        seen = 0
        for ahead, facts, count in many_objects(43, 4, 80):
            found = last(*ahead, clashes())[1:]
            for i, j in zip(found[::2], found[1::2]):
                seen += 1
                self.assertGreaterEqual(facts, 2)
                self.assertLess(i, j)
                self.assertEqual(looks(ahead, free(2 ** i | 2 ** j), keeps(2)), [[0], [0]])
        self.assertGreater(seen, 50)

    def test_free_is_kept_with_no_others_there(self):
        for ahead, facts, count in many_objects(44, 4, 15, 4):
            for x in range(2 ** count):
                rest = ahead[:2] + [told for i, told in enumerate(ahead[2:]) if x // 2 ** i % 2]
                self.assertEqual(last(*ahead, free(x)), last(*rest, keeps(facts)))
            for i in range(count):
                self.assertEqual(last(*ahead, alone(i)), last(*ahead, free(2 ** i)))


class NoWorse(unittest.TestCase):
    def test_fewer_copies(self):
        for ahead, facts, count in many_objects(51):
            kept = [answer[0] for answer in looks(ahead, *[keeps(k) for k in range(1, 5)])]
            self.assertEqual(kept, sorted(kept, reverse=True))

    def test_fewer_deeds(self):
        for ahead, facts, count in many_objects(52, 4, 25, 4):
            frees = sets_that_are_free(ahead, count)
            for x in frees:
                self.assertTrue(all(y in frees for y in range(x) if y & x == y))
            kept = looks(ahead, *[keeps(k) for k in range(1, 5)])
            for i in range(count):
                fewer = looks([*ahead, drop(i)], *[keeps(k) for k in range(1, 5)])
                self.assertTrue(all(few >= more for few, more in zip(fewer, kept)))

    def test_put_together_does_not_ask_for_the_order_nor_how_often(self):
        numbers = Numbers(53)
        for again in range(60):
            facts = 1 + numbers.below(4)
            s, *row = [numbers.below(2 ** facts) for y in range(4)]
            rows = [*itertools.permutations(row), *[[*row, y] for y in row], [*row, s]]
            given = looks([begin(facts)], *[together(s, *told) for told in rows])
            self.assertEqual(given, [given[0]] * len(rows))

    def test_what_is_refused_and_looking_changes_nothing(self):
        g = GREATEST
        calls = [
            begin(0), begin(g), rule(g), deed(0, 1, 0, 0), deed(0, 0, 1, 1), drop(g), let(0), does(0, 0), does(g, 0),
            reach(1), reach(g), together(0, 1, 1), together(g), keeps(2), keeps(0), broken(2), broken(g), fewest(),
            broken_at(2, 0), broken_at(0, 0), broken_at(2, g), clash(0, 1), clash(g, 0), clashes(), free(1), free(g),
            most_free(), asked(), alone(0), alone(g), closed(), open_states(), state(),
        ]
        for ahead, facts, count in many_objects(54, 4, 12):
            as_it_was = looks(ahead, *LOOK)
            self.assertEqual(looks([*ahead, *calls], *LOOK[:17]), as_it_was[:17])
            self.assertEqual(looks([*ahead, *calls], *LOOK[17:34]), as_it_was[17:34])
            self.assertEqual(looks([*ahead, *calls], *LOOK[34:]), as_it_was[34:])
            for call in calls:
                self.assertEqual(looks(ahead, call, call)[0], looks(ahead, call, call)[1])


if __name__ == "__main__":
    unittest.main()
