"""Point 12, undoing: the last change that is not undone goes first, and all is as it was ahead of it."""

import unittest

from pilehall.day import answers, contents, piles_behind, work
from tests.helpers import flat, mixed_day

OPEN = ("open",)
UNDO = ("undo",)


def flat_piles(deeds):
    return [flat(some) for some in piles_behind(deeds)]


class EachKind(unittest.TestCase):
    def test_nothing_to_undo(self):
        self.assertEqual(answers([UNDO]), [None])
        self.assertEqual(answers([OPEN, UNDO, OPEN, UNDO, UNDO]), [0, None, 1, None, None])

    def test_a_putting(self):
        deeds = [OPEN, ("put", 0, 5), ("put", 0, 3), UNDO, ("least", 0), UNDO, ("least", 0), UNDO]
        self.assertEqual(answers(deeds)[3:], ["put", (5, 0), "put", None, None])

    def test_a_taking(self):
        deeds = [OPEN, ("put", 0, 5), ("put", 0, 3), ("take", 0), ("take", 0), UNDO, ("least", 0), UNDO, ("least", 0)]
        self.assertEqual(answers(deeds)[3:], [(3, 1), (5, 0), "take", (5, 0), "take", (3, 1)])

    def test_a_joining(self):
        ahead = [OPEN, OPEN, ("put", 0, 5), ("put", 1, 3)]
        for one, two in ((0, 1), (1, 0)):
            deeds = ahead + [("join", one, two), UNDO, ("same", 0, 1), ("least", 0), ("least", 1)]
            self.assertEqual(answers(deeds)[4:], [True, "join", False, (5, 0), (3, 1)])
            self.assertEqual(piles_behind(deeds), piles_behind(ahead))

    def test_a_joining_of_empty_piles(self):
        deeds = [OPEN, OPEN, ("join", 0, 1), UNDO, ("same", 0, 1), ("join", 1, 0), ("same", 0, 1)]
        self.assertEqual(answers(deeds)[2:], [True, "join", False, True, True])

    def test_a_joining_with_one_empty_pile(self):
        for group in (0, 1):
            ahead = [OPEN, OPEN, ("put", group, 5)]
            deeds = ahead + [("join", 0, 1), ("put", 1, 1), UNDO, UNDO]
            self.assertEqual(answers(deeds)[3:], [True, 1, "put", "join"])
            self.assertEqual(piles_behind(deeds), piles_behind(ahead))


class WhatIsNoChange(unittest.TestCase):
    def test_deeds_that_change_nothing_are_passed_over(self):
        ahead = [OPEN, OPEN, OPEN, ("put", 0, 5), ("join", 0, 1)]
        for deed in [OPEN, ("take", 2), ("least", 0), ("least", 2), ("join", 0, 1), ("join", 1, 0), ("join", 1, 1),
                     ("same", 0, 1), ("same", 0, 2), ("put", 9, 1), ("take", -1), ("join", 0, 9), ("join", 9, 0)]:
            with self.subTest(deed):
                self.assertEqual(answers(ahead + [deed, UNDO, UNDO, UNDO])[6:], ["join", "put", None])

    def test_undoing_is_not_undone(self):
        deeds = [OPEN, ("put", 0, 5), ("put", 0, 4), UNDO, UNDO, UNDO, ("least", 0)]
        self.assertEqual(answers(deeds)[3:], ["put", "put", None, None])


class SeveralInARow(unittest.TestCase):
    def test_down_to_nothing(self):
        deeds = [OPEN, OPEN, ("put", 0, 5), ("put", 1, 3), ("join", 0, 1), ("take", 1), ("put", 0, 9), ("take", 0)]
        back = answers(deeds + [UNDO] * 8)[8:]
        self.assertEqual(back, ["take", "put", "take", "join", "put", "put", None, None])
        self.assertEqual(contents(deeds + [UNDO] * 8), [[], []])

    def test_changes_behind_undone_ones(self):
        deeds = [OPEN, ("put", 0, 5), ("put", 0, 3), UNDO, ("put", 0, 4), UNDO, UNDO, UNDO]
        self.assertEqual(answers(deeds), [0, 0, 1, "put", 2, "put", "put", None])

    def test_joinings_of_joined_groups_are_parted_one_by_one(self):
        ahead = [OPEN] * 4 + [("put", group, group) for group in range(4)]
        joinings = [("join", 3, 2), ("join", 1, 0), ("join", 0, 3)]
        pairs = [("same", one, two) for one in range(4) for two in range(one)]
        for kept in range(4):
            deeds = ahead + joinings + [UNDO] * (3 - kept)
            plain = ahead + joinings[:kept]
            self.assertEqual(answers(deeds + pairs)[-6:], answers(plain + pairs)[-6:])
            self.assertEqual(work(deeds + pairs)[-6:], work(plain + pairs)[-6:])
            self.assertEqual(contents(deeds), contents(plain))
            self.assertEqual(piles_behind(deeds), piles_behind(plain))

    def test_counts_of_groups_are_as_they_were_ahead(self):
        # Three groups were in the head's group and are parted, so that the counts are equal again.
        deeds = [OPEN] * 4 + [("join", 0, 1), ("join", 0, 2), UNDO, UNDO, ("join", 3, 0), ("least", 3), ("least", 0)]
        self.assertEqual(work(deeds)[-2:], [(0, 0), (1, 0)])
        # Two groups were taken away from four, so that three others have more.
        deeds = [OPEN] * 7 + [("join", 0, 1), ("join", 2, 3), ("join", 4, 5), ("join", 4, 6), ("join", 0, 2), UNDO]
        self.assertEqual(work(deeds + [("join", 0, 4), ("least", 0)])[-1], (1, 0))
        # A group that was parted keeps what it had itself.
        deeds = [OPEN] * 6 + [("join", 0, 1), ("join", 2, 3), ("join", 0, 2), UNDO, ("join", 4, 2), ("least", 4)]
        self.assertEqual(work(deeds)[-1], (1, 0))


class GroupsOpenedSince(unittest.TestCase):
    def test_they_stay(self):
        deeds = [OPEN, ("put", 0, 5), OPEN, UNDO, OPEN, ("least", 1), ("least", 2), ("least", 0)]
        self.assertEqual(answers(deeds), [0, 0, 1, "put", 2, None, None, None])
        self.assertEqual(contents(deeds), [[], [], []])

    def test_opened_between_every_two_changes(self):
        changes = [("put", 0, 5), ("put", 1, 3), ("join", 1, 0), ("take", 0), ("put", 0, 4), ("join", 2, 0)]
        deeds = [OPEN, OPEN]
        for change in changes:
            deeds += [change, OPEN]
        back = [UNDO, OPEN] * 7
        wanted = ["join", 8, "put", 9, "take", 10, "join", 11, "put", 12, "put", 13, None, 14]
        self.assertEqual(answers(deeds + back)[-14:], wanted)
        self.assertEqual(contents(deeds + back), [[]] * 15)
        apart = [("same", one, two) for one in range(15) for two in range(one)]
        self.assertEqual(set(answers(deeds + back + apart)[-len(apart):]), {False})

    def test_a_group_opened_since_can_be_used(self):
        deeds = [OPEN, OPEN, ("join", 0, 1), OPEN, UNDO, ("put", 2, 7), ("join", 2, 0), ("least", 0), ("same", 0, 1)]
        self.assertEqual(answers(deeds)[3:], [2, "join", 0, True, (7, 0), False])


class Ages(unittest.TestCase):
    def test_undone_puttings_are_counted_in(self):
        deeds = [OPEN, ("put", 0, 5), UNDO, ("put", 0, 5), UNDO, UNDO, ("put", 0, 5), ("least", 0)]
        self.assertEqual(answers(deeds), [0, 0, "put", 1, "put", None, 2, (5, 2)])

    def test_undone_puttings_in_other_groups_too(self):
        deeds = [OPEN, OPEN, ("put", 0, 5), ("put", 0, 5), UNDO, ("put", 1, 5), ("join", 1, 0), UNDO, ("put", 0, 5),
                 ("take", 0), ("take", 0), ("take", 1)]
        self.assertEqual(answers(deeds)[2:], [0, 1, "put", 2, True, "join", 3, (5, 0), (5, 3), (5, 2)])

    def test_undone_takings_give_no_new_age(self):
        deeds = [OPEN, ("put", 0, 5), ("take", 0), UNDO, ("least", 0), ("put", 0, 6)]
        self.assertEqual(answers(deeds)[3:], ["take", (5, 0), 1])


class WholeDays(unittest.TestCase):
    def test_all_is_as_it_was_ahead_of_each_change(self):
        weights = {"open": 2, "put": 5, "take": 3, "join": 3, "least": 1, "same": 1}
        for seed in range(6):
            deeds = mixed_day(70, seed, weights)
            given = answers(deeds)
            changes = [
                number for number, deed in enumerate(deeds)
                if deed[0] in ("put", "take", "join") and given[number] is not None and given[number] is not False
            ]
            groups = deeds.count(OPEN)
            every_step = [("least", group) for group in range(groups)]
            for undone, number in enumerate(reversed(changes), 1):
                back = deeds + [UNDO] * undone
                since = [deed for deed in deeds[number:] if deed == OPEN]
                plain = deeds[:number] + since
                self.assertEqual(answers(back)[-1], deeds[number][0])
                self.assertEqual(flat_piles(back), flat_piles(plain))
                self.assertEqual(contents(back), contents(plain))
                self.assertEqual(work(back + every_step)[-groups:], work(plain + every_step)[-groups:])
            self.assertIsNone(answers(deeds + [UNDO] * (len(changes) + 1))[-1])


if __name__ == "__main__":
    unittest.main()
