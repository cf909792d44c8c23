"""Points 10 and 12: the deeds of a day and their answers; undoing has its own file."""

import unittest

from pilehall.day import answers, contents, piles_behind, work
from tests.helpers import BEYOND, BIG, NO_GROUP, ToldDay, mixed_days

OPEN = ("open",)


def last(deeds):
    return answers(deeds)[-1]


class Opening(unittest.TestCase):
    def test_no_deeds(self):
        self.assertEqual(answers([]), [])

    def test_numbers_from_nought(self):
        self.assertEqual(answers([OPEN] * 4), [0, 1, 2, 3])

    def test_numbers_go_on_behind_other_deeds(self):
        deeds = [OPEN, ("put", 0, 5), OPEN, ("join", 0, 1), OPEN, ("take", 1), ("undo",), OPEN]
        self.assertEqual(answers(deeds), [0, 0, 1, True, 2, (5, 0), "take", 3])

    def test_each_is_by_itself_with_an_empty_pile(self):
        deeds = [OPEN, OPEN, ("same", 0, 1), ("least", 0), ("least", 1), ("take", 0), ("take", 1)]
        self.assertEqual(answers(deeds), [0, 1, False, None, None, None, None])


class Putting(unittest.TestCase):
    def test_ages_count_up_over_all_groups(self):
        deeds = [OPEN, OPEN, ("put", 1, 7), ("put", 0, 7), ("put", 1, -7), ("put", 1, 7)]
        self.assertEqual(answers(deeds), [0, 1, 0, 1, 2, 3])

    def test_ages_count_things_that_were_taken(self):
        deeds = [OPEN, ("put", 0, 7), ("take", 0), ("put", 0, 7), ("take", 0), ("least", 0), ("put", 0, 8)]
        self.assertEqual(answers(deeds), [0, 0, (7, 0), 1, (7, 1), None, 2])

    def test_ages_do_not_count_what_was_put_on_no_group(self):
        deeds = [OPEN, ("put", 1, 7), ("put", -1, 7), ("put", 10 ** 30, 7), ("put", 0, 7), ("least", 0)]
        self.assertEqual(answers(deeds), [0, None, None, None, 0, (7, 0)])

    def test_a_rank_is_not_taken_for_a_group(self):
        for rank in (1, -1, 10 ** 30, BIG, -BIG, BEYOND):
            self.assertEqual(answers([OPEN, ("put", 0, rank), ("least", 0)]), [0, 0, (rank, 0)])


class TakingAndLeast(unittest.TestCase):
    def test_by_rank_and_then_by_age(self):
        deeds = [OPEN] + [("put", 0, rank) for rank in (3, 1, 3, -2, 1)] + [("take", 0)] * 6
        self.assertEqual(answers(deeds)[6:], [(-2, 3), (1, 1), (1, 4), (3, 0), (3, 2), None])

    def test_least_takes_nothing(self):
        deeds = [OPEN, ("put", 0, 4), ("put", 0, 2), ("least", 0), ("least", 0), ("take", 0), ("least", 0)]
        self.assertEqual(answers(deeds)[3:], [(2, 1), (2, 1), (2, 1), (4, 0)])

    def test_one_group_is_not_another(self):
        deeds = [OPEN, OPEN, ("put", 0, 4), ("put", 1, 2), ("take", 0), ("take", 0), ("least", 1), ("take", 1)]
        self.assertEqual(answers(deeds)[4:], [(4, 0), None, (2, 1), (2, 1)])

    def test_large_ranks(self):
        ranks = [BIG + 1, BIG, -BIG, -BIG - 1, 0, BEYOND, -BEYOND]
        deeds = [OPEN] + [("put", 0, rank) for rank in ranks] + [("take", 0)] * len(ranks)
        self.assertEqual([rank for rank, age in answers(deeds)[8:]], sorted(ranks))


class JoiningAndSame(unittest.TestCase):
    def test_joined_groups_have_one_pile(self):
        deeds = [OPEN, OPEN, ("put", 0, 4), ("put", 1, 2), ("join", 0, 1), ("least", 0), ("least", 1), ("take", 0),
                 ("take", 1), ("take", 0), ("put", 1, 9), ("least", 0)]
        self.assertEqual(answers(deeds)[4:], [True, (2, 1), (2, 1), (2, 1), (4, 0), None, 2, (9, 2)])

    def test_joined_in_either_order(self):
        for one, two in ((0, 1), (1, 0)):
            deeds = [OPEN, OPEN, ("put", 0, 4), ("put", 1, 2), ("join", one, two), ("same", 0, 1), ("same", 1, 0)]
            self.assertEqual(answers(deeds)[4:], [True, True, True])

    def test_one_already(self):
        deeds = [OPEN, OPEN, ("put", 0, 4), ("join", 0, 1), ("join", 0, 1), ("join", 1, 0), ("take", 1), ("take", 1)]
        self.assertEqual(answers(deeds)[3:], [True, False, False, (4, 0), None])

    def test_with_all_that_was_joined_to_either(self):
        deeds = [OPEN] * 6 + [("join", 0, 1), ("join", 2, 3), ("same", 1, 3), ("join", 1, 3)]
        deeds += [("same", one, two) for one in range(6) for two in range(6)]
        wanted = [one == two or (one < 4 and two < 4) for one in range(6) for two in range(6)]
        self.assertEqual(answers(deeds)[6:], [True, True, False, True] + wanted)
        self.assertIs(last(deeds[:10] + [("join", 0, 2)]), False)
        self.assertIs(last(deeds[:10] + [("join", 0, 4)]), True)

    def test_one_group_named_twice(self):
        deeds = [OPEN, OPEN, ("put", 0, 4), ("join", 0, 0), ("same", 0, 0), ("take", 0), ("take", 0), ("undo",),
                 ("undo",), ("undo",)]
        self.assertEqual(answers(deeds)[3:], [False, True, (4, 0), None, "take", "put", None])
        deeds = [OPEN, OPEN, ("join", 0, 1), ("join", 1, 1), ("same", 1, 1), ("undo",), ("undo",)]
        self.assertEqual(answers(deeds)[2:], [True, False, True, "join", None])


def deeds_on(number):
    """All deeds that name this number, alone or beside the group nought."""
    return [("put", number, 3), ("take", number), ("least", number), ("join", number, 0), ("join", 0, number),
            ("join", number, number), ("same", number, 0), ("same", 0, number), ("same", number, number)]


class NumbersOfNoGroup(unittest.TestCase):
    def test_in_a_hall_without_groups(self):
        for number in NO_GROUP + (0, 1):
            deeds = deeds_on(number) + deeds_on(0) + [("undo",), OPEN]
            self.assertEqual(answers(deeds), [None] * 19 + [0])
            self.assertEqual(work(deeds), [(0, 0)] * 20)

    def test_beside_groups(self):
        ahead = [OPEN, OPEN, OPEN, ("put", 0, 5), ("put", 2, 6), ("join", 0, 2), ("put", 0, 7)]
        behind = [("least", 0), ("least", 1), ("same", 0, 1), ("same", 0, 2), ("put", 2, 8), OPEN, ("undo",)]
        for number in NO_GROUP + (3, 4, -3):
            for deed in deeds_on(number):
                with self.subTest(deed):
                    deeds = ahead + [deed] + behind
                    self.assertIsNone(answers(deeds)[7])
                    self.assertEqual(work(deeds)[7], (0, 0))
                    self.assertEqual(answers(deeds)[8:], answers(ahead + behind)[7:])
                    self.assertEqual(contents(deeds), contents(ahead + behind))
                    self.assertEqual(piles_behind(deeds), piles_behind(ahead + behind))
                    self.assertEqual(last(ahead + [deed, ("undo",)]), "put")

    def test_the_count_of_groups_is_a_group_once_one_more_is_opened(self):
        deeds = [OPEN, ("put", 1, 5), OPEN, ("put", 1, 5), ("put", 2, 5)]
        self.assertEqual(answers(deeds), [0, None, 1, 0, None])


class Kinds(unittest.TestCase):
    def test_answers(self):
        deeds = [OPEN, OPEN, ("put", 0, 4), ("least", 0), ("join", 0, 1), ("join", 0, 1), ("same", 0, 1), ("take", 0),
                 ("take", 0), ("undo",), ("put", 9, 9)]
        given = answers(deeds)
        self.assertIs(type(given), list)
        none = type(None)
        wanted = [int, int, int, tuple, bool, bool, bool, tuple, none, str, none]
        self.assertEqual([type(answer) for answer in given], wanted)


class WholeDays(unittest.TestCase):
    def test_as_told(self):
        for deeds in mixed_days():
            self.assertEqual(answers(deeds), ToldDay(deeds).answers)

    def test_what_is_handed_in_stays_as_it_was(self):
        for function in (answers, work, contents, piles_behind):
            for deeds in mixed_days():
                kept = list(deeds)
                function(deeds)
                self.assertEqual(deeds, kept)

    def test_each_day_begins_anew(self):
        deeds = [OPEN, ("put", 0, 1), ("least", 0)]
        for time in range(3):
            self.assertEqual(answers(deeds), [0, 0, (1, 0)])
            self.assertEqual(work(deeds), [(0, 0)] * 3)
            self.assertEqual(contents(deeds), [[(1, 0)]])
            self.assertEqual(piles_behind(deeds), [(1, 0, (), (), 1, 1)])

    def test_five_hundred_groups_and_things_and_more(self):
        for size in (500, 700):
            deeds = [OPEN] * size + [("put", group, -group) for group in range(size)]
            deeds += [("join", group, group - 1) for group in range(1, size)]
            deeds += [("take", 0)] * (size + 1) + [("undo",)] * (3 * size)
            wanted = list(range(size)) * 2 + [True] * (size - 1)
            wanted += [(-group, group) for group in range(size - 1, -1, -1)] + [None]
            wanted += ["take"] * size + ["join"] * (size - 1) + ["put"] * size + [None]
            self.assertEqual(answers(deeds), wanted)

    def test_a_pile_that_is_deep_on_the_left(self):
        for size in (500, 2000):
            deeds = [OPEN] + [("put", 0, -rank) for rank in range(size)] + [("take", 0)] * size
            self.assertEqual(answers(deeds)[size + 1:], [(-rank, rank) for rank in range(size - 1, -1, -1)])


if __name__ == "__main__":
    unittest.main()
