"""What several tests need: piles made by hand, and the document's rules written a second time, plainly."""

import random

BIG = 10 ** 99
BEYOND = 10 ** 149

# Numbers that are no group's, however many groups there are.
NO_GROUP = (-1, -2, 10 ** 30, -(10 ** 30), BIG, -BEYOND)


def pile(rank, age, left=(), right=(), reach=None, held=None):
    """A pile made by hand; its numbers are the true ones where none are given."""
    if reach is None:
        reach = 1 + (right[4] if right else 0)
    if held is None:
        held = 1 + (left[5] if left else 0) + (right[5] if right else 0)
    return (rank, age, left, right, reach, held)


def row_to_the_left(size, bottom=()):
    """A sound pile, as deep on the left as it has things (where the bottom is empty)."""
    made = bottom
    for number in range(size - 1, -1, -1):
        made = pile(number, number, made)
    return made


def row_to_the_right(size, bottom=()):
    """Not sound where it has two things or more, for it leans to the right."""
    made = bottom
    for number in range(size - 1, -1, -1):
        made = pile(number, number, (), made)
    return made


def depth(made, side):
    steps = 0
    while made:
        made = made[side]
        steps += 1
    return steps


def flat(made):
    """All of a pile in one list, so that deep piles can be compared without going deep."""
    seen = []
    waiting = [made]
    while waiting:
        part = waiting.pop()
        if part == ():
            seen.append(())
        else:
            seen.append((part[0], part[1], part[4], part[5]))
            waiting.extend([part[3], part[2]])
    return seen


def told_joined(one, two):
    """Point 7, word by word; only for piles that reach no farther than sound ones."""
    if one == ():
        return two, 0
    if two == ():
        return one, 0
    ahead, other = (one, two) if one[:2] < two[:2] else (two, one)
    below, count = told_joined(ahead[3], other)
    left, right = ahead[2], below
    if (right[4] if right else 0) > (left[4] if left else 0):
        left, right = right, left
    return pile(ahead[0], ahead[1], left, right), count + 1


def told_piled(things):
    """Point 9, word by word."""
    piles = [pile(rank, age) for rank, age in things]
    count = 0
    while len(piles) > 1:
        after = []
        while len(piles) > 1:
            made, more = told_joined(piles.pop(0), piles.pop(0))
            after.append(made)
            count += more
        piles = after + piles
    return (piles[0] if piles else ()), count


def is_sound_as_told(made):
    """Point 5 with the true reach and number of things of every part, counted from below."""
    true_numbers = []
    waiting = [(made, False)]
    while waiting:
        part, seen = waiting.pop()
        if part == ():
            true_numbers.append((0, 0))
        elif not seen:
            waiting.extend([(part, True), (part[3], False), (part[2], False)])
        else:
            right = true_numbers.pop()
            left = true_numbers.pop()
            numbers = (right[0] + 1, left[1] + right[1] + 1)
            if part[4:] != numbers or left[0] < right[0]:
                return False
            if any(below and below[:2] < part[:2] for below in part[2:4]):
                return False
            true_numbers.append(numbers)
    return True


def mixed_things(size, seed, ranks=20):
    """Things with many equal ranks; no two have the same age."""
    source = random.Random(seed)
    ages = list(range(-size, size))
    source.shuffle(ages)
    return [(source.randint(-ranks, ranks), age) for age in ages[:size]]


def grown(things):
    """A pile of these things, made by joining one after the other as told."""
    made = ()
    for rank, age in things:
        made = told_joined(made, pile(rank, age))[0]
    return made


class ToldDay:
    """Points 10 to 13, word by word: every change keeps a copy of all that was there ahead of it."""

    def __init__(self, deeds):
        self.under = {}
        self.piles = {}
        self.put_so_far = 0
        self.kept = []
        self.answers = []
        self.work = []
        for deed in deeds:
            answer, steps, compared = self.do(deed)
            self.answers.append(answer)
            self.work.append((steps, compared))

    def up(self, group):
        steps = 0
        while group in self.under:
            group = self.under[group]
            steps += 1
        return group, steps

    def groups_under(self, head):
        return [group for group in self.piles if self.up(group)[0] == head]

    def keep(self, word):
        self.kept.append((word, dict(self.under), dict(self.piles)))

    def do(self, deed):
        word = deed[0]
        named = deed[1:2] if word in ("put", "take", "least") else deed[1:3]
        if any(group not in self.piles for group in named):
            return None, 0, 0
        if word == "open":
            self.piles[len(self.piles)] = ()
            return len(self.piles) - 1, 0, 0
        if word == "undo":
            return self.go_back(), 0, 0
        ways = [self.up(group) for group in named]
        heads = [head for head, steps in ways]
        steps = sum(steps for head, steps in ways)
        if word == "same":
            return heads[0] == heads[1], steps, 0
        if word == "join":
            answer, compared = self.join(*heads)
        elif word == "put":
            answer, compared = self.put(heads[0], deed[2])
        else:
            answer, compared = self.first(heads[0], word == "take")
        return answer, steps, compared

    def put(self, head, rank):
        self.keep("put")
        age = self.put_so_far
        self.put_so_far += 1
        self.piles[head], compared = told_joined(self.piles[head], pile(rank, age))
        return age, compared

    def first(self, head, is_taken):
        there = self.piles[head]
        if there == ():
            return None, 0
        if not is_taken:
            return there[:2], 0
        self.keep("take")
        self.piles[head], compared = told_joined(there[2], there[3])
        return there[:2], compared

    def join(self, first, second):
        if first == second:
            return False, 0
        self.keep("join")
        upper, lower = first, second
        if len(self.groups_under(first)) < len(self.groups_under(second)):
            upper, lower = second, first
        made, compared = told_joined(self.piles[first], self.piles[second])
        self.under[lower] = upper
        self.piles[upper] = made
        return True, compared

    def go_back(self):
        if not self.kept:
            return None
        word, self.under, piles = self.kept.pop()
        opened_since = [group for group in self.piles if group not in piles]
        self.piles = piles
        for group in opened_since:
            self.piles[group] = ()
        return word

    def pile_of(self, group):
        return self.piles[self.up(group)[0]]

    def behind(self):
        return [self.pile_of(group) for group in range(len(self.piles))]


def mixed_day(length, seed, weights, ranks=20):
    """A day of many deeds; weights tell how often each kind of deed comes; now and then a number is no group's."""
    source = random.Random(seed)
    words = list(weights)
    deeds = []
    opened = 0

    def some_group():
        if source.random() < 0.03:
            return source.choice(NO_GROUP + (opened,))
        return source.randrange(opened) if opened else 0

    for word in source.choices(words, [weights[word] for word in words], k=length):
        if word in ("open", "undo"):
            deeds.append((word,))
            opened += word == "open"
        elif word in ("take", "least"):
            deeds.append((word, some_group()))
        elif word == "put":
            deeds.append((word, some_group(), source.randint(-ranks, ranks)))
        else:
            deeds.append((word, some_group(), some_group()))
    return deeds


def mixed_days():
    """Days with many things, with many joined groups, with much undone, and with everything."""
    even = {"open": 3, "put": 6, "take": 3, "least": 2, "join": 3, "same": 2, "undo": 2}
    days = [mixed_day(length, length, even) for length in list(range(30)) + [60, 120, 300, 600]]
    days.append(mixed_day(1000, 1, {"open": 1, "put": 8, "take": 3, "join": 1, "undo": 1}))
    days.append(mixed_day(1000, 2, {"open": 4, "put": 3, "join": 5, "same": 2, "least": 1}, 10 ** 100))
    days.append(mixed_day(1000, 3, {"open": 2, "put": 5, "take": 3, "join": 3, "undo": 9}))
    days.append(mixed_day(1000, 4, {"open": 4, "put": 1, "join": 9, "same": 2, "undo": 4}))
    days.append(mixed_day(1300, 5, even, 2))
    return days
