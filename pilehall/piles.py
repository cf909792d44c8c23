"""Leaning piles: one thing by itself, two piles joined, first things taken, a list of things piled."""

from pilehall.errors import EmptyPile

# The places in a pile that is not empty.
RANK = 0
AGE = 1
LEFT = 2
RIGHT = 3
REACH = 4
HELD = 5


def thing_on(pile):
    return (pile[RANK], pile[AGE])


def reach_of(pile):
    return pile[REACH] if pile else 0


def held_of(pile):
    return pile[HELD] if pile else 0


def comes_ahead(one, two):
    # Pairs are compared by the rank, and by the age only where the ranks are the same.
    return thing_on(one) < thing_on(two)


def topped(thing, left, right):
    return (thing[RANK], thing[AGE], left, right, reach_of(right) + 1, held_of(left) + held_of(right) + 1)


def leaning(thing, old_left, other):
    # Piles that reach equally far are not exchanged.
    if reach_of(other) > reach_of(old_left):
        return topped(thing, other, old_left)
    return topped(thing, old_left, other)


def single(rank, age):
    return topped((rank, age), (), ())


def joined(one, two):
    # A walk down and up again, not a recursion: a pile that is not sound may be too deep on the right for one.
    tops = []
    while one and two:
        if comes_ahead(two, one):
            tops.append(two)
            two = two[RIGHT]
        else:
            tops.append(one)
            one = one[RIGHT]
    pile = one if one else two
    for top in reversed(tops):
        pile = leaning(thing_on(top), top[LEFT], pile)
    # Each comparison found one top, so the tops are as many as the comparisons.
    return (pile, len(tops))


def taken(pile):
    if not pile:
        raise EmptyPile("there is nothing to take from the empty pile")
    rest = joined(pile[LEFT], pile[RIGHT])
    return (thing_on(pile), rest[0], rest[1])


def emptied(pile):
    things = []
    while pile:
        step = taken(pile)
        things.append(step[0])
        pile = step[1]
    return things


def paired_off(piles):
    pairs = [joined(piles[k], piles[k + 1]) for k in range(0, len(piles) - 1, 2)]
    left_over = [piles[-1]] if len(piles) % 2 == 1 else []
    return ([pair[0] for pair in pairs] + left_over, sum([pair[1] for pair in pairs]))


def piled(things):
    piles = [single(rank, age) for rank, age in things]
    count = 0
    while len(piles) > 1:
        outcome = paired_off(piles)
        piles = outcome[0]
        count += outcome[1]
    return (piles[0] if piles else (), count)
