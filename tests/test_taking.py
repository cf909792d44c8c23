"""Points 8 and 9: things taken from a pile, and a list of things piled."""

import unittest

from pilehall.errors import EmptyPile, HallError
from pilehall.piles import emptied, joined, piled, single, taken
from tests.helpers import (
    BEYOND, BIG, flat, grown, is_sound_as_told, mixed_things, pile, row_to_the_left, row_to_the_right, told_joined,
    told_piled,
)


class Taken(unittest.TestCase):
    def test_the_empty_pile_is_refused(self):
        for error in (EmptyPile, HallError, ValueError):
            with self.assertRaises(error):
                taken(())
        with self.assertRaises(ValueError) as caught:
            taken(())
        self.assertIs(type(caught.exception), EmptyPile)

    def test_one_thing(self):
        self.assertEqual(taken(single(4, -2)), ((4, -2), (), 0))

    def test_one_pile_below(self):
        below = pile(5, 1, pile(6, 2), pile(7, 3))
        self.assertEqual(taken(pile(4, 0, below)), ((4, 0), below, 0))

    def test_two_piles_below(self):
        some = pile(1, 0, pile(3, 1, pile(9, 2)), pile(2, 3, pile(8, 4)))
        left = (2, 3, (8, 4, (), (), 1, 1), (3, 1, (9, 2, (), (), 1, 1), (), 1, 2), 2, 4)
        self.assertEqual(taken(some), ((1, 0), left, 1))

    def test_more_than_one_comparison(self):
        some = pile(0, 9, pile(1, 0, pile(5, 1), pile(3, 2)), pile(2, 3, pile(6, 4), pile(4, 5)))
        below = (2, 3, (6, 4, (), (), 1, 1), (3, 2, (4, 5, (), (), 1, 1), (), 1, 2), 2, 4)
        left = (1, 0, below, (5, 1, (), (), 1, 1), 2, 6)
        self.assertEqual(taken(some), ((0, 9), left, 3))

    def test_many_as_told(self):
        for size in range(1, 60):
            some = grown(mixed_things(size, size))
            before = flat(some)
            first, left, count = taken(some)
            wanted, wanted_count = told_joined(some[2], some[3])
            self.assertEqual(first, some[:2])
            self.assertEqual(flat(left), flat(wanted))
            self.assertEqual(count, wanted_count)
            self.assertTrue(is_sound_as_told(left))
            self.assertEqual(flat(some), before)

    def test_kinds(self):
        for some in (single(1, 0), grown(mixed_things(9, 9))):
            answer = taken(some)
            self.assertIs(type(answer), tuple)
            self.assertEqual([type(part) for part in answer], [tuple, tuple, int])
            self.assertEqual([type(part) for part in answer[0]], [int, int])

    def test_deep_piles(self):
        for size in (500, 2000):
            for some, side in ((row_to_the_left(size), 2), (row_to_the_right(size), 3)):
                first, left, count = taken(some)
                self.assertEqual((first, count), ((0, 0), 0))
                self.assertEqual(flat(left), flat(some[side]))


class Emptied(unittest.TestCase):
    def test_the_empty_pile(self):
        self.assertEqual(emptied(()), [])

    def test_one_thing(self):
        self.assertEqual(emptied(single(-BIG, BIG)), [(-BIG, BIG)])

    def test_the_order_is_by_rank_and_then_by_age(self):
        some = grown([(2, 0), (1, 5), (2, -1), (1, 4), (-3, 9)])
        self.assertEqual(emptied(some), [(-3, 9), (1, 4), (1, 5), (2, -1), (2, 0)])

    def test_many(self):
        for size in (2, 3, 10, 63, 64, 500, 700):
            things = mixed_things(size, size)
            some = grown(things)
            before = flat(some)
            self.assertEqual(emptied(some), sorted(things))
            self.assertEqual(flat(some), before)

    def test_large_numbers(self):
        things = [(BIG + 1, 0), (BIG, 2), (-BIG, 3), (BIG, 1), (BEYOND, 4), (-BEYOND, 5)]
        wanted = [(-BEYOND, 5), (-BIG, 3), (BIG, 1), (BIG, 2), (BIG + 1, 0), (BEYOND, 4)]
        self.assertEqual(emptied(grown(things)), wanted)

    def test_kinds(self):
        things = emptied(grown(mixed_things(6, 6)))
        self.assertIs(type(things), list)
        self.assertEqual({type(thing) for thing in things}, {tuple})
        self.assertEqual({len(thing) for thing in things}, {2})
        self.assertIs(type(emptied(())), list)

    def test_deep_piles(self):
        for size in (500, 2000):
            wanted = [(number, number) for number in range(size)]
            self.assertEqual(emptied(row_to_the_left(size)), wanted)
            self.assertEqual(emptied(row_to_the_right(size)), wanted)


class Piled(unittest.TestCase):
    def assert_as_told(self, things):
        kept = list(things)
        made, count = piled(things)
        wanted, wanted_count = told_piled(things)
        self.assertEqual(flat(made), flat(wanted))
        self.assertEqual(count, wanted_count)
        self.assertTrue(is_sound_as_told(made))
        self.assertLessEqual(count, 3 * len(things))
        self.assertEqual(things, kept)

    def test_no_things(self):
        self.assertEqual(piled([]), ((), 0))

    def test_one(self):
        self.assertEqual(piled([(4, 7)]), ((4, 7, (), (), 1, 1), 0))

    def test_two(self):
        wanted = (3, 1, (4, 0, (), (), 1, 1), (), 1, 2)
        self.assertEqual(piled([(4, 0), (3, 1)]), (wanted, 1))
        self.assertEqual(piled([(3, 1), (4, 0)]), (wanted, 1))

    def test_three(self):
        wanted = (1, 0, (2, 1, (), (), 1, 1), (3, 2, (), (), 1, 1), 2, 3)
        self.assertEqual(piled([(1, 0), (2, 1), (3, 2)]), (wanted, 2))
        falling = (1, 2, (2, 1, (3, 0, (), (), 1, 1), (), 1, 2), (), 1, 3)
        self.assertEqual(piled([(3, 0), (2, 1), (1, 2)]), (falling, 2))

    def test_four(self):
        last = (3, 2, (4, 3, (), (), 1, 1), (), 1, 2)
        wanted = (1, 0, (2, 1, (), (), 1, 1), last, 2, 4)
        self.assertEqual(piled([(1, 0), (2, 1), (3, 2), (4, 3)]), (wanted, 3))

    def test_five_where_the_last_one_waits_through_two_rounds(self):
        last = (3, 2, (4, 3, (), (), 1, 1), (5, 4, (), (), 1, 1), 2, 3)
        wanted = (1, 0, last, (2, 1, (), (), 1, 1), 2, 5)
        self.assertEqual(piled([(1, 0), (2, 1), (3, 2), (4, 3), (5, 4)]), (wanted, 5))

    def test_every_size_up_to_a_hundred(self):
        for size in range(101):
            self.assert_as_told(mixed_things(size, size))
            self.assert_as_told([(number, number) for number in range(size)])
            self.assert_as_told([(-number, number) for number in range(size)])
            self.assert_as_told([(0, -number) for number in range(size)])

    def test_five_hundred_and_more(self):
        for size in (499, 500, 512, 513, 701):
            self.assert_as_told(mixed_things(size, size))
            self.assert_as_told(mixed_things(size, -size, 10 ** 100))
            self.assert_as_told([(number, number) for number in range(size)])
            self.assert_as_told([(-number, number) for number in range(size)])

    def test_all_things_come_out_again(self):
        things = mixed_things(500, 77)
        self.assertEqual(emptied(piled(things)[0]), sorted(things))

    def test_kinds(self):
        for things in ([], [(1, 0)], [(2, 0), (1, 1)], mixed_things(7, 7)):
            answer = piled(things)
            self.assertIs(type(answer), tuple)
            self.assertEqual([type(part) for part in answer], [tuple, int])


class JoinedAgain(unittest.TestCase):
    def test_piles_that_were_made_here_go_on_being_sound(self):
        one = piled(mixed_things(40, 3))[0]
        two = piled([(rank, age + 1000) for rank, age in mixed_things(33, 4)])[0]
        made = joined(one, two)[0]
        while made:
            self.assertTrue(is_sound_as_told(made))
            made = taken(made)[1]


if __name__ == "__main__":
    unittest.main()
