"""Points 11, 13 and 14: which head is laid under which, the work of each deed, and how little it is."""

import unittest

from pilehall.day import answers, piles_behind, work
from tests.helpers import NO_GROUP, ToldDay, is_sound_as_told, mixed_days

OPEN = ("open",)
UNDO = ("undo",)


def steps_up(deeds, groups):
    """The steps from each of these groups to its head behind the day."""
    return [pair[0] for pair in work(deeds + [("least", group) for group in groups])[len(deeds):]]


class WhichGoesUnder(unittest.TestCase):
    def test_equal_counts_lay_the_second_named_under_the_first(self):
        self.assertEqual(steps_up([OPEN, OPEN, ("join", 0, 1)], [0, 1]), [0, 1])
        self.assertEqual(steps_up([OPEN, OPEN, ("join", 1, 0)], [0, 1]), [1, 0])

    def test_equal_counts_of_more_groups(self):
        ahead = [OPEN] * 4 + [("join", 0, 1), ("join", 2, 3)]
        self.assertEqual(steps_up(ahead + [("join", 1, 3)], range(4)), [0, 1, 1, 2])
        self.assertEqual(steps_up(ahead + [("join", 3, 1)], range(4)), [1, 2, 0, 1])

    def test_fewer_go_under_more_in_either_order(self):
        ahead = [OPEN] * 3 + [("join", 0, 1)]
        for joining in (("join", 0, 2), ("join", 2, 0), ("join", 1, 2), ("join", 2, 1)):
            self.assertEqual(steps_up(ahead + [joining], range(3)), [0, 1, 1])
        ahead = [OPEN] * 5 + [("join", 0, 1), ("join", 2, 3), ("join", 2, 4)]
        for joining in (("join", 0, 2), ("join", 4, 1)):
            self.assertEqual(steps_up(ahead + [joining], range(5)), [1, 2, 0, 1, 1])

    def test_groups_count_and_things_do_not(self):
        deeds = [OPEN] * 3 + [("join", 0, 1)] + [("put", 2, 1)] * 9 + [("join", 2, 0)]
        self.assertEqual(steps_up(deeds, range(3)), [0, 1, 1])
        deeds = [OPEN] * 2 + [("put", 1, 1)] * 9 + [("join", 0, 1)]
        self.assertEqual(steps_up(deeds, range(2)), [0, 1])

    def test_counts_of_groups_and_not_the_length_of_ways(self):
        # Four groups with a way of one step against four with a way of two.
        broad = [("join", 0, 1), ("join", 0, 2), ("join", 0, 3)]
        long = [("join", 4, 5), ("join", 6, 7), ("join", 4, 6)]
        ahead = [OPEN] * 8 + broad + long
        self.assertEqual(steps_up(ahead + [("join", 0, 4)], range(8)), [0, 1, 1, 1, 1, 2, 2, 3])
        ahead = [OPEN] * 9 + broad + long + [("join", 0, 8)]
        self.assertEqual(steps_up(ahead + [("join", 4, 0)], range(8)), [0, 1, 1, 1, 1, 2, 2, 3])

    def test_ways_are_not_made_shorter_by_being_gone(self):
        deeds = [OPEN] * 4 + [("join", 0, 1), ("join", 2, 3), ("join", 0, 2)]
        self.assertEqual(steps_up(deeds, [3, 3, 3]), [2, 2, 2])
        deeds += [("put", 3, 1), ("take", 3), ("same", 3, 3), ("join", 3, 0)]
        self.assertEqual(steps_up(deeds, [3, 2, 1, 0]), [2, 1, 1, 0])

    def test_a_joining_that_changes_nothing_leaves_counts_alone(self):
        # The group of nought still has two groups, so it goes under the one with three.
        deeds = [OPEN] * 5 + [("join", 0, 1), ("join", 0, 1), ("join", 1, 0), ("join", 0, 0), ("join", 2, 3),
                              ("join", 2, 4), ("join", 0, 2)]
        self.assertEqual(steps_up(deeds, range(5)), [1, 2, 0, 1, 1])


class EachDeed(unittest.TestCase):
    # Group nought is the head of four; from three the way up is two steps.
    ahead = [OPEN] * 5 + [("join", 0, 1), ("join", 2, 3), ("join", 0, 2)]

    def last(self, *deeds):
        return work(self.ahead + list(deeds))[-1]

    def test_no_deeds(self):
        self.assertEqual(work([]), [])

    def test_opening_and_undoing(self):
        self.assertEqual(self.last(OPEN), (0, 0))
        self.assertEqual(self.last(UNDO), (0, 0))
        self.assertEqual(self.last(("put", 3, 1), ("put", 3, 2), UNDO), (0, 0))
        self.assertEqual(self.last(("put", 3, 1), ("put", 3, 2), ("take", 3), UNDO), (0, 0))
        self.assertEqual(self.last(("put", 3, 1), ("put", 4, 2), ("join", 3, 4), UNDO), (0, 0))
        self.assertEqual(work([UNDO, OPEN]), [(0, 0), (0, 0)])

    def test_putting(self):
        self.assertEqual(self.last(("put", 3, 5)), (2, 0))
        self.assertEqual(self.last(("put", 0, 5), ("put", 3, 4)), (2, 1))
        self.assertEqual(self.last(("put", 0, 5), ("put", 1, 6)), (1, 1))
        self.assertEqual(self.last(("put", 0, 1), ("put", 0, 2), ("put", 0, 3), ("put", 0, 4)), (0, 2))
        self.assertEqual(self.last(("put", 0, 5), ("put", 4, 6)), (0, 0))

    def test_taking(self):
        three = [("put", 0, 1), ("put", 0, 2), ("put", 0, 3)]
        self.assertEqual(self.last(*three, ("take", 3)), (2, 1))
        self.assertEqual(self.last(*three, ("take", 3), ("take", 1)), (1, 0))
        self.assertEqual(self.last(*three, ("take", 3), ("take", 3), ("take", 3)), (2, 0))

    def test_taking_from_the_empty_pile(self):
        self.assertEqual(self.last(("take", 3)), (2, 0))
        self.assertEqual(self.last(("take", 4)), (0, 0))

    def test_least(self):
        self.assertEqual(self.last(("least", 3)), (2, 0))
        self.assertEqual(self.last(("put", 0, 1), ("put", 0, 2), ("least", 3)), (2, 0))
        self.assertEqual(self.last(("put", 0, 1), ("least", 0)), (0, 0))

    def test_joining(self):
        self.assertEqual(self.last(("join", 3, 4)), (2, 0))
        self.assertEqual(self.last(("join", 4, 1)), (1, 0))
        self.assertEqual(self.last(("put", 3, 1), ("put", 4, 2), ("join", 4, 3)), (2, 1))
        self.assertEqual(self.last(("put", 3, 1), ("join", 4, 3)), (2, 0))
        pair = [OPEN, ("join", 4, 5), ("put", 4, 1), ("put", 3, 2)]
        self.assertEqual(self.last(*pair, ("join", 5, 3)), (3, 1))
        self.assertEqual(self.last(*pair, ("join", 3, 5)), (3, 1))

    def test_joining_piles_that_reach_farther(self):
        puttings = [("put", 0, rank) for rank in (1, 3, 5)] + [("put", 4, rank) for rank in (2, 4, 6)]
        self.assertEqual(self.last(*puttings, ("join", 0, 4)), (0, 3))

    def test_joining_what_is_one_already(self):
        some = [("put", 0, 1), ("put", 0, 2), ("put", 0, 3)]
        self.assertEqual(self.last(*some, ("join", 3, 1)), (3, 0))
        self.assertEqual(self.last(*some, ("join", 3, 3)), (4, 0))
        self.assertEqual(self.last(*some, ("join", 0, 0)), (0, 0))

    def test_same(self):
        some = [("put", 0, 1), ("put", 4, 2)]
        self.assertEqual(self.last(*some, ("same", 3, 1)), (3, 0))
        self.assertEqual(self.last(*some, ("same", 4, 3)), (2, 0))
        self.assertEqual(self.last(*some, ("same", 3, 4)), (2, 0))
        self.assertEqual(self.last(*some, ("same", 3, 3)), (4, 0))
        self.assertEqual(self.last(*some, ("same", 0, 4)), (0, 0))

    def test_numbers_of_no_group(self):
        for number in NO_GROUP + (5, 6):
            for deed in [("put", number, 1), ("take", number), ("least", number), ("join", 3, number),
                         ("join", number, 3), ("same", 3, number), ("same", number, 3), ("join", number, number)]:
                self.assertEqual(self.last(("put", 3, 1), deed), (0, 0))

    def test_kinds(self):
        given = work(self.ahead + [("put", 3, 1), ("put", 3, 2), ("take", 3), ("take", 9), UNDO, ("same", 0, 4)])
        self.assertIs(type(given), list)
        for pair in given:
            self.assertIs(type(pair), tuple)
            self.assertEqual([type(number) for number in pair], [int, int])


def joined_by_twos(count):
    """All groups joined, two by two, then four by four and so on: the longest ways up that there are."""
    deeds = [OPEN] * count
    width = 1
    while width < count:
        deeds += [("join", group, group + width) for group in range(0, count - width, 2 * width)]
        width *= 2
    return deeds


def joined_in_a_row(count):
    return [OPEN] * count + [("join", group, group + 1) for group in range(count - 1)]


def joined_in_a_row_backwards(count):
    return [OPEN] * count + [("join", group + 1, group) for group in range(count - 1)]


class Bounds(unittest.TestCase):
    def assert_few_steps(self, deeds):
        groups = range(deeds.count(OPEN))
        told = ToldDay(deeds)
        for group, steps in zip(groups, steps_up(deeds, groups)):
            self.assertLessEqual(2 ** steps, len(told.groups_under(told.up(group)[0])))

    def test_steps(self):
        for count in (1, 2, 3, 7, 8, 9, 64, 100):
            for joined_so in (joined_by_twos, joined_in_a_row, joined_in_a_row_backwards):
                self.assert_few_steps(joined_so(count))
        for deeds in mixed_days()[::3]:
            self.assert_few_steps(deeds)

    def test_steps_of_many_groups(self):
        for count in (500, 600):
            for joined_so in (joined_by_twos, joined_in_a_row, joined_in_a_row_backwards):
                steps = steps_up(joined_so(count), range(count))
                self.assertLessEqual(2 ** max(steps), count)

    def test_the_bound_is_met(self):
        for levels in range(10):
            count = 2 ** levels
            self.assertEqual(max(steps_up(joined_by_twos(count), range(count))), levels)

    def test_reaches_and_comparisons_of_every_deed(self):
        for deeds in mixed_days()[::2]:
            day = ToldDay([])
            for deed, pair in zip(deeds, work(deeds)):
                held_ahead = [some[5] if some else 0 for some in day.behind()]
                reach_ahead = [some[4] if some else 0 for some in day.behind()]
                answer = day.do(deed)[0]
                if answer is None or deed[0] in ("open", "undo", "least", "same"):
                    self.assertEqual(pair[1], 0)
                elif deed[0] == "put":
                    self.assertLessEqual(pair[1], reach_ahead[deed[1]] + 1)
                elif deed[0] == "join":
                    self.assertLessEqual(pair[1], reach_ahead[deed[1]] + reach_ahead[deed[2]])
                for held, reach in zip(held_ahead, reach_ahead):
                    self.assertLessEqual(2 ** reach, held + 1)

    def test_piles_of_the_hall_are_sound(self):
        for deeds in mixed_days():
            for some in piles_behind(deeds):
                self.assertTrue(is_sound_as_told(some))
                if some:
                    self.assertLessEqual(2 ** some[4], some[5] + 1)


class WholeDays(unittest.TestCase):
    def test_as_told(self):
        for deeds in mixed_days():
            self.assertEqual(work(deeds), ToldDay(deeds).work)

    def test_one_for_each_deed(self):
        for deeds in mixed_days():
            self.assertEqual(len(work(deeds)), len(answers(deeds)))
            self.assertEqual(len(work(deeds)), len(deeds))


if __name__ == "__main__":
    unittest.main()
