"""The hall: its groups, their piles, and the changes that can still be undone."""

from pilehall.groups import HEAD, STEPS, Groups
from pilehall.piles import joined, single, taken, thing_on

NO_WORK = (0, 0)

# The places in a change.
WORD = 0
WHOSE = 1
OLD_PILE = 2
LAID = 3


# A method for a deed gives a pair, the answer and the work; it trusts that the numbers handed to it are groups'.
class Hall:
    def __init__(self):
        self.groups = Groups()
        # For each head the pile of its group; what stands at the others is kept for parting them.
        self.piles = []
        self.put_count = 0
        self.changes = []

    def has(self, number):
        return self.groups.has(number)

    def add_group(self):
        self.piles.append(())
        return (self.groups.add_group(), NO_WORK)

    def put(self, group, rank):
        way = self.groups.way_up(group)
        age = self.put_count
        outcome = joined(self.piles[way[HEAD]], single(rank, age))
        self.change("put", way[HEAD], outcome[0], None)
        # Undoing leaves this count alone, so that no two things of a day have the same age.
        self.put_count += 1
        return (age, (way[STEPS], outcome[1]))

    def take(self, group):
        way = self.groups.way_up(group)
        pile = self.piles[way[HEAD]]
        if not pile:
            return (None, (way[STEPS], 0))
        outcome = taken(pile)
        self.change("take", way[HEAD], outcome[1], None)
        return (outcome[0], (way[STEPS], outcome[2]))

    def least(self, group):
        way = self.groups.way_up(group)
        pile = self.piles[way[HEAD]]
        return (thing_on(pile) if pile else None, (way[STEPS], 0))

    def unite(self, one, two):
        first = self.groups.way_up(one)
        second = self.groups.way_up(two)
        steps = first[STEPS] + second[STEPS]
        if first[HEAD] == second[HEAD]:
            return (False, (steps, 0))
        outcome = joined(self.piles[first[HEAD]], self.piles[second[HEAD]])
        laid = self.groups.lay(first[HEAD], second[HEAD])
        self.change("join", self.groups.above[laid], outcome[0], laid)
        return (True, (steps, outcome[1]))

    def are_one(self, one, two):
        first = self.groups.way_up(one)
        second = self.groups.way_up(two)
        return (first[HEAD] == second[HEAD], (first[STEPS] + second[STEPS], 0))

    def change(self, word, head, pile, laid):
        self.changes.append((word, head, self.piles[head], laid))
        self.piles[head] = pile

    def undo(self):
        if not self.changes:
            return (None, NO_WORK)
        last = self.changes.pop()
        if last[LAID] is not None:
            self.groups.part(last[LAID])
        self.piles[last[WHOSE]] = last[OLD_PILE]
        return (last[WORD], NO_WORK)
