"""Points 2, 3, 4 and 7: which thing comes ahead, the form of a pile, and joining."""

import unittest

from pilehall.piles import joined, single
from tests.helpers import (
    BEYOND, BIG, depth, flat, grown, is_sound_as_told, mixed_things, pile, row_to_the_left, row_to_the_right,
    told_joined,
)


class Single(unittest.TestCase):
    def test_form(self):
        self.assertEqual(single(7, 3), (7, 3, (), (), 1, 1))

    def test_any_sign_and_size(self):
        for rank, age in [(0, 0), (-1, -2), (BIG, -BIG), (-BEYOND, BEYOND)]:
            self.assertEqual(single(rank, age), (rank, age, (), (), 1, 1))

    def test_kinds(self):
        made = single(7, 3)
        self.assertIs(type(made), tuple)
        self.assertEqual([type(part) for part in made], [int, int, tuple, tuple, int, int])


class WhichComesAhead(unittest.TestCase):
    def assert_ahead(self, first, second):
        wanted = (first[0], first[1], (second[0], second[1], (), (), 1, 1), (), 1, 2)
        self.assertEqual(joined(single(*first), single(*second)), (wanted, 1))
        self.assertEqual(joined(single(*second), single(*first)), (wanted, 1))

    def test_lesser_rank(self):
        self.assert_ahead((1, 9), (2, 0))

    def test_same_rank_lesser_age(self):
        self.assert_ahead((5, 3), (5, 4))

    def test_below_nought(self):
        self.assert_ahead((-2, 9), (-1, 0))
        self.assert_ahead((-1, 9), (0, 0))
        self.assert_ahead((-1, 9), (1, 0))
        self.assert_ahead((-3, -5), (-3, -4))
        self.assert_ahead((-3, -1), (-3, 0))
        self.assert_ahead((0, -5), (0, 4))

    def test_a_hundred_figures(self):
        self.assertEqual(len(str(BIG)), 100)
        self.assert_ahead((BIG, 1), (BIG + 1, 0))
        self.assert_ahead((-BIG - 1, 1), (-BIG, 0))
        self.assert_ahead((BIG, BIG), (BIG, BIG + 1))
        self.assert_ahead((-BIG, -BIG - 1), (-BIG, -BIG))
        self.assert_ahead((-BIG, 1), (BIG, 0))
        self.assert_ahead((9, BIG), (10, -BIG))

    def test_beyond_a_hundred_figures(self):
        self.assert_ahead((BEYOND, 1), (BEYOND + 1, 0))
        self.assert_ahead((0, -BEYOND - 1), (0, -BEYOND))


class Joined(unittest.TestCase):
    def test_an_empty_pile_on_either_side_and_both(self):
        some = pile(1, 0, pile(2, 1), pile(3, 2))
        self.assertEqual(joined((), some), (some, 0))
        self.assertEqual(joined(some, ()), (some, 0))
        self.assertEqual(joined((), ()), ((), 0))

    def test_equal_reaches_leave_the_old_left_pile_on_the_left(self):
        one = pile(1, 0, pile(5, 1))
        two = pile(2, 2)
        wanted = (1, 0, (5, 1, (), (), 1, 1), (2, 2, (), (), 1, 1), 2, 3)
        self.assertEqual(joined(one, two), (wanted, 1))
        self.assertEqual(joined(two, one), (wanted, 1))

    def test_a_farther_reach_goes_to_the_left(self):
        one = pile(1, 0, pile(9, 1))
        two = pile(2, 2, pile(3, 3), pile(4, 4))
        wanted = (1, 0, two, (9, 1, (), (), 1, 1), 2, 5)
        self.assertEqual(joined(one, two), (wanted, 1))
        self.assertEqual(joined(two, one), (wanted, 1))

    def test_a_lesser_reach_stays_on_the_right(self):
        one = pile(1, 0, pile(2, 1, pile(3, 2), pile(4, 3)))
        two = pile(5, 4)
        wanted = (1, 0, one[2], two, 2, 5)
        self.assertEqual(joined(one, two), (wanted, 1))
        self.assertEqual(joined(two, one), (wanted, 1))

    def test_tops_from_both_piles_in_turn(self):
        one = pile(1, 0, pile(10, 1), pile(3, 2, pile(11, 3)))
        two = pile(2, 4, pile(12, 5), pile(4, 6))
        lowest = (3, 2, (11, 3, (), (), 1, 1), (4, 6, (), (), 1, 1), 2, 3)
        below = (2, 4, lowest, (12, 5, (), (), 1, 1), 2, 5)
        wanted = (1, 0, below, (10, 1, (), (), 1, 1), 2, 7)
        self.assertEqual(joined(one, two), (wanted, 3))
        self.assertEqual(joined(two, one), (wanted, 3))

    def test_a_walk_down_the_whole_of_one_right_side(self):
        one = pile(1, 0, pile(10, 1), pile(3, 2))
        two = pile(2, 4, pile(12, 5), pile(4, 6))
        made, count = joined(one, two)
        self.assertEqual(count, 3)
        self.assertEqual(made[4:], (2, 6))

    def test_many_piles_as_told(self):
        sizes = [0, 1, 2, 3, 5, 8, 17, 40, 90]
        for first in sizes:
            for second in sizes:
                things = mixed_things(first + second, first * 100 + second)
                one, two = grown(things[:first]), grown(things[first:])
                made, count = joined(one, two)
                self.assertEqual(flat(made), flat(told_joined(one, two)[0]))
                self.assertEqual(count, told_joined(one, two)[1])
                self.assertTrue(is_sound_as_told(made))
                self.assertLessEqual(count, sum(part[4] for part in (one, two) if part))

    def test_what_is_handed_in_stays_as_it_was(self):
        one, two = grown(mixed_things(30, 1)), grown([(rank, age + 100) for rank, age in mixed_things(30, 2)])
        ahead = flat(one), flat(two)
        joined(one, two)
        self.assertEqual((flat(one), flat(two)), ahead)

    def test_kinds(self):
        answer = joined(single(1, 0), single(2, 1))
        self.assertIs(type(answer), tuple)
        self.assertEqual([type(part) for part in answer], [tuple, int])
        self.assertEqual([type(part) for part in answer[0]], [int, int, tuple, tuple, int, int])
        self.assertEqual([type(part) for part in joined((), ())], [tuple, int])


class LongRows(unittest.TestCase):
    def test_falling_order_is_deep_on_the_left(self):
        for size in (500, 2000):
            made = ()
            for number in range(size - 1, -1, -1):
                made, count = joined(made, single(number, number))
                self.assertEqual(count, 0 if number == size - 1 else 1)
            self.assertEqual(depth(made, 2), size)
            self.assertEqual(flat(made), flat(row_to_the_left(size)))

    def test_rising_order(self):
        made = told = ()
        for number in range(500):
            told, wanted = told_joined(told, pile(number, number))
            made, count = joined(made, single(number, number))
            self.assertEqual(count, wanted)
        self.assertEqual(flat(made), flat(told))
        self.assertEqual(made[5], 500)
        self.assertTrue(is_sound_as_told(made))

    def test_two_deep_piles(self):
        one = row_to_the_left(500)
        two = pile(600, 600, row_to_the_left(2000)[2])
        made, count = joined(one, two)
        self.assertEqual(count, 1)
        self.assertEqual(flat(made), flat(pile(0, 0, one[2], two)))

    def test_piles_deep_on_the_right(self):
        for size in (500, 2000):
            lesser = row_to_the_right(size)
            made, count = joined(lesser, single(size, size))
            self.assertEqual(count, size)
            self.assertEqual(made[5], size + 1)
            self.assertEqual(depth(made, 2), size + 1)


if __name__ == "__main__":
    unittest.main()
