"""Whether a pile is sound, and which things it has."""

from pilehall.piles import LEFT, RIGHT, REACH, HELD, comes_ahead, reach_of, thing_on, topped


def parts_of(pile):
    # A list of what is still to be seen, not a recursion: piles may be deep on either side.
    parts = []
    waiting = [pile]
    while waiting:
        part = waiting.pop()
        if part:
            parts.append(part)
            waiting.append(part[RIGHT])
            waiting.append(part[LEFT])
    return parts


def is_topped_well(pile):
    return not any([below and comes_ahead(below, pile) for below in (pile[LEFT], pile[RIGHT])])


def leans_left(pile):
    return reach_of(pile[LEFT]) >= reach_of(pile[RIGHT])


def is_numbered_well(pile):
    # The numbers told of the piles below may be trusted here: where they are false, it shows at those piles.
    made_anew = topped(thing_on(pile), pile[LEFT], pile[RIGHT])
    return pile[REACH] == made_anew[REACH] and pile[HELD] == made_anew[HELD]


def is_sound(pile):
    return all([is_topped_well(part) and leans_left(part) and is_numbered_well(part) for part in parts_of(pile)])


def things_of(pile):
    return [thing_on(part) for part in parts_of(pile)]
