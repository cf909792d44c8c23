"""What several tests need: piles made by hand, and the document's rules written a second time, plainly."""

import random

BIG = 10 ** 99
BEYOND = 10 ** 149


def pile(rank, age, left=(), right=(), reach=None, held=None):
    """A pile made by hand; its numbers are the true ones where none are given."""
    if reach is None:
        reach = 1 + (right[4] if right else 0)
    if held is None:
        held = 1 + (left[5] if left else 0) + (right[5] if right else 0)
    return (rank, age, left, right, reach, held)


def row_to_the_left(size, bottom=()):
    """A sound pile, as deep on the left as it has things (where the bottom is empty)."""
    made = bottom
    for number in range(size - 1, -1, -1):
        made = pile(number, number, made)
    return made


def row_to_the_right(size, bottom=()):
    """Not sound where it has two things or more, for it leans to the right."""
    made = bottom
    for number in range(size - 1, -1, -1):
        made = pile(number, number, (), made)
    return made


def depth(made, side):
    steps = 0
    while made:
        made = made[side]
        steps += 1
    return steps


def flat(made):
    """All of a pile in one list, so that deep piles can be compared without going deep."""
    seen = []
    waiting = [made]
    while waiting:
        part = waiting.pop()
        if part == ():
            seen.append(())
        else:
            seen.append((part[0], part[1], part[4], part[5]))
            waiting.extend([part[3], part[2]])
    return seen


def told_joined(one, two):
    """Point 7, word by word; only for piles that reach no farther than sound ones."""
    if one == ():
        return two, 0
    if two == ():
        return one, 0
    ahead, other = (one, two) if one[:2] < two[:2] else (two, one)
    below, count = told_joined(ahead[3], other)
    left, right = ahead[2], below
    if (right[4] if right else 0) > (left[4] if left else 0):
        left, right = right, left
    return pile(ahead[0], ahead[1], left, right), count + 1


def told_piled(things):
    """Point 9, word by word."""
    piles = [pile(rank, age) for rank, age in things]
    count = 0
    while len(piles) > 1:
        after = []
        while len(piles) > 1:
            made, more = told_joined(piles.pop(0), piles.pop(0))
            after.append(made)
            count += more
        piles = after + piles
    return (piles[0] if piles else ()), count


def is_sound_as_told(made):
    """Point 5 with the true reach and number of things of every part, counted from below."""
    true_numbers = []
    waiting = [(made, False)]
    while waiting:
        part, seen = waiting.pop()
        if part == ():
            true_numbers.append((0, 0))
        elif not seen:
            waiting.extend([(part, True), (part[3], False), (part[2], False)])
        else:
            right = true_numbers.pop()
            left = true_numbers.pop()
            numbers = (right[0] + 1, left[1] + right[1] + 1)
            if part[4:] != numbers or left[0] < right[0]:
                return False
            if any(below and below[:2] < part[:2] for below in part[2:4]):
                return False
            true_numbers.append(numbers)
    return True


def mixed_things(size, seed, ranks=20):
    """Things with many equal ranks; no two have the same age."""
    source = random.Random(seed)
    ages = list(range(-size, size))
    source.shuffle(ages)
    return [(source.randint(-ranks, ranks), age) for age in ages[:size]]


def grown(things):
    """A pile of these things, made by joining one after the other as told."""
    made = ()
    for rank, age in things:
        made = told_joined(made, pile(rank, age))[0]
    return made
