"""The deeds of a day: their answers, their work, and the piles that are there behind it."""

from pilehall.hall import NO_WORK, Hall
from pilehall.piles import emptied


def groups_named(deed):
    # All numbers of a deed are groups, but the rank that is put.
    return deed[1:2] if deed[0] == "put" else deed[1:]


def done(hall, deed):
    if not all([hall.has(number) for number in groups_named(deed)]):
        return (None, NO_WORK)
    word = deed[0]
    if word == "open":
        return hall.add_group()
    if word == "put":
        return hall.put(deed[1], deed[2])
    if word == "take":
        return hall.take(deed[1])
    if word == "least":
        return hall.least(deed[1])
    if word == "join":
        return hall.unite(deed[1], deed[2])
    if word == "same":
        return hall.are_one(deed[1], deed[2])
    return hall.undo()


def outcomes(hall, deeds):
    return [done(hall, deed) for deed in deeds]


def answers(deeds):
    return [outcome[0] for outcome in outcomes(Hall(), deeds)]


def work(deeds):
    return [outcome[1] for outcome in outcomes(Hall(), deeds)]


def hall_behind(deeds):
    hall = Hall()
    outcomes(hall, deeds)
    return hall


def piles_behind(deeds):
    hall = hall_behind(deeds)
    return [hall.piles[head] for head in hall.groups.heads()]


def contents(deeds):
    hall = hall_behind(deeds)
    heads = hall.groups.heads()
    # Groups that were joined have one pile, so it is emptied once; yet each group is given a list of its own.
    things = {}
    for head in sorted(set(heads)):
        things[head] = emptied(hall.piles[head])
    return [list(things[head]) for head in heads]
