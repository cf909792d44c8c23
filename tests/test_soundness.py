"""Points 3 to 6: the things of a pile, when it is sound, and how small its reach is then."""

import random
import unittest

from pilehall.piles import piled, taken
from pilehall.soundness import is_sound, things_of
from tests.helpers import (
    BEYOND, BIG, flat, grown, is_sound_as_told, mixed_things, pile, row_to_the_left, row_to_the_right,
)

# One way each in which a pile is not sound.
FAULTS = {
    "left top ahead by rank": pile(5, 5, pile(4, 6), pile(7, 7)),
    "left top ahead by age": pile(5, 5, pile(5, 4), pile(7, 7)),
    "right top ahead by rank": pile(5, 5, pile(6, 6), pile(4, 7)),
    "right top ahead by age": pile(5, 5, pile(6, 6), pile(5, 4)),
    "only pile is on the right": pile(5, 5, (), pile(6, 6)),
    "right reaches farther": pile(5, 5, pile(6, 6), pile(7, 7, pile(8, 8), pile(9, 9))),
    "reach too great": pile(5, 5, pile(6, 6), pile(7, 7), reach=3),
    "reach too small": pile(5, 5, pile(6, 6), pile(7, 7), reach=1),
    "reach of one thing is nought": pile(5, 5, reach=0),
    "reach of one thing is two": pile(5, 5, reach=2),
    "reach counts the left": pile(5, 5, pile(6, 6), reach=2),
    "reach below nought": pile(5, 5, reach=-1),
    "held too great": pile(5, 5, pile(6, 6), pile(7, 7), held=4),
    "held too small": pile(5, 5, pile(6, 6), pile(7, 7), held=2),
    "held of one thing is nought": pile(5, 5, held=0),
    "held without the left": pile(5, 5, pile(6, 6), pile(7, 7, pile(8, 8)), held=3),
    "held below nought": pile(5, 5, held=-1),
}


def full(levels, number=1):
    """A sound pile where both piles below every thing are equally large; ranks are below nought."""
    if levels == 0:
        return ()
    return pile(number - 1000, number, full(levels - 1, 2 * number), full(levels - 1, 2 * number + 1))


def placed(some):
    """Piles that have this one at the top, on the left, on the right, and far below; sound where it is sound."""
    far_left = far_right = some
    for number in range(1, 30):
        far_left = pile(-number, number, far_left)
    for number in range(1, 6):
        far_right = pile(-3000 - number, number, full(8), far_right)
    return {
        "top": some,
        "left alone": pile(-2000, 0, some),
        "left": pile(-2000, 0, some, pile(7, 7)),
        "right": pile(-2000, 0, full(4), some),
        "left of the right": pile(-4000, 0, full(4), pile(-2000, 0, some)),
        "right of the left": pile(-4000, 0, pile(-2000, 0, full(4), some)),
        "far on the left": far_left,
        "far on the right": far_right,
    }


class Sound(unittest.TestCase):
    def assert_sound(self, some, wanted):
        self.assertIs(is_sound(some), wanted)
        self.assertIs(is_sound_as_told(some), wanted)

    def test_the_empty_pile(self):
        self.assert_sound((), True)

    def test_one_thing(self):
        self.assert_sound((3, 4, (), (), 1, 1), True)
        self.assert_sound((-BEYOND, -BIG, (), (), 1, 1), True)

    def test_the_right_pile_left_out(self):
        self.assert_sound((3, 4, (5, 6, (), (), 1, 1), (), 1, 2), True)

    def test_the_left_pile_left_out(self):
        self.assert_sound((3, 4, (), (5, 6, (), (), 1, 1), 2, 2), False)

    def test_equal_reaches(self):
        self.assert_sound((3, 4, (5, 6, (), (), 1, 1), (5, 7, (), (), 1, 1), 2, 3), True)

    def test_left_reaches_farther_and_holds_fewer(self):
        three = pile(4, 1, pile(5, 2), pile(6, 3))
        row = pile(4, 4, pile(5, 5, pile(6, 6, pile(7, 7))))
        self.assert_sound(pile(3, 0, three, row), True)
        self.assert_sound(pile(3, 0, row, three), False)

    def test_left_and_right_may_come_in_either_order(self):
        self.assert_sound(pile(1, 0, pile(3, 1), pile(2, 2)), True)
        self.assert_sound(pile(1, 0, pile(2, 1), pile(3, 2)), True)

    def test_the_same_rank_and_age(self):
        self.assert_sound(pile(5, 5, pile(5, 5), pile(5, 5)), True)
        self.assert_sound(pile(5, 5, pile(5, 5, pile(5, 5))), True)
        self.assert_sound(pile(BIG, BIG, pile(BIG, BIG), pile(BIG, BIG)), True)
        self.assert_sound(pile(5, 5, (), pile(5, 5)), False)

    def test_the_same_age_and_another_rank(self):
        self.assert_sound(pile(4, 5, pile(5, 5), pile(6, 5)), True)
        self.assert_sound(pile(5, 5, pile(4, 5), pile(6, 5)), False)
        self.assert_sound(pile(5, 5, pile(6, 5), pile(4, 5)), False)

    def test_numbers_of_any_sign_and_size(self):
        self.assert_sound(pile(-2, 0, pile(-1, 1)), True)
        self.assert_sound(pile(-1, 0, pile(-2, 1)), False)
        self.assert_sound(pile(0, -2, pile(0, -1)), True)
        self.assert_sound(pile(0, -1, pile(0, -2)), False)
        self.assert_sound(pile(BIG, 0, pile(BIG + 1, -1)), True)
        self.assert_sound(pile(BIG + 1, 0, pile(BIG, 1)), False)
        self.assert_sound(pile(0, BEYOND, pile(0, BEYOND + 1)), True)
        self.assert_sound(pile(0, BEYOND + 1, pile(0, BEYOND)), False)

    def test_each_fault_in_each_place(self):
        for name, some in FAULTS.items():
            for place, whole in placed(some).items():
                with self.subTest(fault=name, place=place):
                    self.assert_sound(whole, False)

    def test_without_a_fault_each_place_is_sound(self):
        for some in (pile(5, 5), pile(5, 5, pile(6, 6)), pile(5, 5, pile(6, 6), pile(7, 7))):
            for place, whole in placed(some).items():
                with self.subTest(place=place):
                    self.assert_sound(whole, True)

    def test_a_wrong_number_is_not_made_good_above(self):
        wrong = pile(5, 5, reach=4, held=9)
        self.assert_sound(pile(4, 4, wrong), False)
        self.assert_sound(pile(4, 4, pile(6, 6, pile(8, 8), pile(7, 7)), wrong), False)
        self.assert_sound(pile(4, 4, pile(6, 6, reach=2), pile(7, 7, reach=2)), False)
        self.assert_sound(pile(4, 4, pile(6, 6, held=2), held=2), False)

    def test_one_changed_place_among_many(self):
        source = random.Random(5)
        for size in range(2, 40):
            some = grown(mixed_things(size, size))
            self.assert_sound(some, True)
            for time in range(10):
                changed = changed_somewhere(some, source)
                self.assertIs(is_sound(changed), is_sound_as_told(changed))

    def test_deep_piles(self):
        for size in (500, 2000):
            self.assert_sound(row_to_the_left(size), True)
            self.assert_sound(row_to_the_right(size), False)
            self.assert_sound(row_to_the_left(size, pile(-1, size)), False)
            self.assert_sound(row_to_the_left(size, pile(size, size, held=2)), False)


def changed_somewhere(some, source):
    """The same pile with one number of one of its parts made one more or one less."""
    way = []
    part = some
    while part[2] and source.random() < 0.7:
        side = 3 if part[3] and source.random() < 0.5 else 2
        way.append((part, side))
        part = part[side]
    place = source.choice([0, 1, 4, 5])
    part = part[:place] + (part[place] + source.choice([-1, 1]),) + part[place + 1:]
    for above, side in reversed(way):
        part = above[:side] + (part,) + above[side + 1:]
    return part


class Reach(unittest.TestCase):
    def assert_bound(self, some):
        self.assertTrue(is_sound(some))
        things = things_of(some)
        reach = some[4] if some else 0
        self.assertLessEqual(2 ** reach, len(things) + 1)
        self.assertEqual(some[5] if some else 0, len(things))

    def test_piles_of_many_sizes(self):
        for size in list(range(130)) + [255, 256, 499, 500, 600]:
            self.assert_bound(piled(mixed_things(size, size))[0])
            self.assert_bound(piled([(number, number) for number in range(size)])[0])
            self.assert_bound(piled([(-number, number) for number in range(size)])[0])

    def test_while_things_are_taken(self):
        some = piled(mixed_things(200, 8))[0]
        while some:
            some = taken(some)[1]
            self.assert_bound(some)

    def test_the_bound_is_met(self):
        for levels in range(9):
            some = full(levels)
            self.assert_bound(some)
            self.assertEqual(2 ** levels, len(things_of(some)) + 1)
            self.assertEqual(some[4] if some else 0, levels)


class ThingsOf(unittest.TestCase):
    def test_the_empty_pile(self):
        self.assertEqual(things_of(()), [])

    def test_one_thing(self):
        self.assertEqual(things_of(pile(-4, BIG)), [(-4, BIG)])

    def test_the_top_then_the_left_then_the_right(self):
        left = pile(2, 1, pile(3, 2, pile(4, 3)), pile(5, 4))
        right = pile(6, 5, pile(7, 6), pile(8, 7))
        wanted = [(1, 0), (2, 1), (3, 2), (4, 3), (5, 4), (6, 5), (7, 6), (8, 7)]
        self.assertEqual(things_of(pile(1, 0, left, right)), wanted)

    def test_piles_that_are_not_sound(self):
        some = (9, 9, (), (8, 9, (7, 7, (), (), 0, -5), (8, 9, (), (), 3, 3), 7, 0), 0, 0)
        self.assertEqual(things_of(some), [(9, 9), (8, 9), (7, 7), (8, 9)])

    def test_deep_piles(self):
        for size in (500, 2000):
            wanted = [(number, number) for number in range(size)]
            self.assertEqual(things_of(row_to_the_left(size)), wanted)
            self.assertEqual(things_of(row_to_the_right(size)), wanted)

    def test_kinds_and_nothing_changed(self):
        some = grown(mixed_things(20, 1))
        before = flat(some)
        things = things_of(some)
        self.assertIs(type(things), list)
        self.assertEqual({(type(thing), len(thing)) for thing in things}, {(tuple, 2)})
        self.assertIs(type(things_of(())), list)
        self.assertEqual(flat(some), before)


if __name__ == "__main__":
    unittest.main()
