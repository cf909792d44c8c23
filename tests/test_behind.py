"""The interface's contents and piles_behind: what lies on the pile of each group behind the day."""

import unittest

from pilehall.day import answers, contents, piles_behind
from pilehall.piles import emptied, joined, single, taken
from tests.helpers import BEYOND, BIG, ToldDay, flat, is_sound_as_told, mixed_days

OPEN = ("open",)
UNDO = ("undo",)


class Contents(unittest.TestCase):
    def test_no_groups(self):
        self.assertEqual(contents([]), [])
        self.assertEqual(contents([UNDO, ("put", 0, 1)]), [])

    def test_empty_piles(self):
        self.assertEqual(contents([OPEN] * 3), [[], [], []])

    def test_in_the_order_of_taking_for_each_group(self):
        deeds = [OPEN, OPEN, OPEN] + [("put", number % 2, -number // 3) for number in range(8)]
        first, second = [(-2, 4), (-2, 6), (-1, 2), (0, 0)], [(-3, 7), (-2, 5), (-1, 1), (-1, 3)]
        self.assertEqual(contents(deeds), [first, second, []])

    def test_joined_groups_have_the_same_things_each(self):
        deeds = [OPEN] * 4 + [("put", group, 9 - group) for group in range(4)] + [("join", 2, 0), ("join", 2, 3)]
        things = [(6, 3), (7, 2), (9, 0)]
        self.assertEqual(contents(deeds), [things, [(8, 1)], things, things])

    def test_groups_that_were_parted_again(self):
        deeds = [OPEN, OPEN, ("put", 0, 5), ("put", 1, 4), ("join", 0, 1), UNDO]
        self.assertEqual(contents(deeds), [[(5, 0)], [(4, 1)]])

    def test_large_ranks(self):
        deeds = [OPEN] + [("put", 0, rank) for rank in (BEYOND, BIG, -BIG, -BEYOND)]
        self.assertEqual(contents(deeds), [[(-BEYOND, 3), (-BIG, 2), (BIG, 1), (BEYOND, 0)]])

    def test_kinds(self):
        given = contents([OPEN, OPEN, OPEN, ("put", 0, 1), ("put", 0, 2), ("join", 0, 1)])
        self.assertIs(type(given), list)
        self.assertEqual([type(things) for things in given], [list] * 3)
        self.assertEqual({type(thing) for things in given for thing in things}, {tuple})

    def test_no_two_lists_are_one(self):
        given = contents([OPEN, OPEN, ("put", 0, 1), ("join", 0, 1)])
        given[0].append("more")
        self.assertEqual(given[1], [(1, 0)])

    def test_many_groups_joined_with_many_things(self):
        deeds = [OPEN] * 500 + [("put", group, group % 7) for group in range(500)]
        deeds += [("join", group, group + 1) for group in range(499)]
        things = sorted((group % 7, group) for group in range(500))
        self.assertEqual(contents(deeds), [things] * 500)


class PilesBehind(unittest.TestCase):
    def test_no_groups(self):
        self.assertEqual(piles_behind([]), [])
        self.assertEqual(piles_behind([UNDO, ("put", 0, 1)]), [])

    def test_empty_piles(self):
        self.assertEqual(piles_behind([OPEN] * 3), [(), (), ()])

    def test_puttings(self):
        deeds = [OPEN, OPEN, ("put", 1, 5), ("put", 1, 3), ("put", 1, 4)]
        self.assertEqual(piles_behind(deeds), [(), (3, 1, (5, 0, (), (), 1, 1), (4, 2, (), (), 1, 1), 2, 3)])

    def test_takings(self):
        deeds = [OPEN, ("put", 0, 5), ("put", 0, 3), ("put", 0, 4), ("take", 0)]
        self.assertEqual(piles_behind(deeds), [(4, 2, (5, 0, (), (), 1, 1), (), 1, 2)])
        self.assertEqual(piles_behind(deeds + [("take", 0), ("take", 0), ("take", 0)]), [()])

    def test_joinings(self):
        deeds = [OPEN, OPEN, OPEN, ("put", 0, 5), ("put", 2, 3)]
        made = (3, 1, (5, 0, (), (), 1, 1), (), 1, 2)
        for joining in (("join", 0, 2), ("join", 2, 0)):
            self.assertEqual(piles_behind(deeds + [joining]), [made, (), made])

    def test_kinds(self):
        given = piles_behind([OPEN, OPEN, ("put", 0, 1)])
        self.assertIs(type(given), list)
        self.assertEqual([type(some) for some in given], [tuple, tuple])

    def test_as_the_piles_are_joined_and_taken_by_themselves(self):
        one = two = ()
        deeds = [OPEN, OPEN]
        for age in range(0, 60, 2):
            one = joined(one, single(age * 7 % 11, age))[0]
            two = joined(two, single(age * 5 % 13, age + 1))[0]
            deeds += [("put", 0, age * 7 % 11), ("put", 1, age * 5 % 13)]
        self.assertEqual(piles_behind(deeds), [one, two])
        both = joined(one, two)[0]
        self.assertEqual(piles_behind(deeds + [("join", 0, 1)]), [both, both])
        rest = taken(taken(both)[1])[1]
        self.assertEqual(piles_behind(deeds + [("join", 0, 1), ("take", 1), ("take", 0)]), [rest, rest])

    def test_a_pile_that_is_deep_on_the_left(self):
        deeds = [OPEN, OPEN, ("join", 0, 1)] + [("put", 1, -rank) for rank in range(2000)]
        for some in piles_behind(deeds):
            self.assertTrue(is_sound_as_told(some))
            self.assertEqual(some[5], 2000)
        things = [(-rank, rank) for rank in range(1999, -1, -1)]
        self.assertEqual(contents(deeds), [things, things])


class BothAndTheAnswers(unittest.TestCase):
    def test_as_told(self):
        for deeds in mixed_days():
            told = ToldDay(deeds).behind()
            self.assertEqual([flat(some) for some in piles_behind(deeds)], [flat(some) for some in told])

    def test_contents_are_the_piles_emptied(self):
        for deeds in mixed_days():
            self.assertEqual(contents(deeds), [emptied(some) for some in piles_behind(deeds)])

    def test_contents_are_what_would_be_taken(self):
        for deeds in mixed_days()[:33]:
            for group, things in enumerate(contents(deeds)):
                takings = [("take", group)] * (len(things) + 1)
                self.assertEqual(answers(deeds + takings)[len(deeds):], things + [None])

    def test_piles_are_what_takings_leave(self):
        for deeds in mixed_days()[20:33]:
            for group, some in enumerate(piles_behind(deeds)):
                self.assertEqual(answers(deeds + [("least", group)])[-1], some[:2] if some else None)
                after = piles_behind(deeds + [("take", group)])[group]
                self.assertEqual(after, taken(some)[1] if some else ())

    def test_groups_that_are_one_have_one_pile(self):
        for deeds in mixed_days()[10:33]:
            piles = piles_behind(deeds)
            for two in range(1, len(piles)):
                if answers(deeds + [("same", 0, two)])[-1]:
                    self.assertEqual(piles[0], piles[two])


if __name__ == "__main__":
    unittest.main()
