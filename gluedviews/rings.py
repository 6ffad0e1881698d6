"""Rings of views. The views are told as a list of their sets of questions."""

from gluedviews.questions import is_within, members

FEWEST_IN_RING = 3


def views_with(sets, question):
    return [i for i, asked in enumerate(sets) if is_within(1 << question, asked)]


def meet_in_twos(sets):
    for asked in sets:
        if len(members(asked)) != 2:
            return False
        for question in members(asked):
            if len(views_with(sets, question)) != 2:
                return False
    return True


def other_of(pair, one):
    return pair[1] if pair[0] == one else pair[0]


def walk_round(sets):
    order = [0]
    question = members(sets[0])[1]
    i = other_of(views_with(sets, question), 0)
    while i != 0:
        order.append(i)
        question = other_of(members(sets[i]), question)
        i = other_of(views_with(sets, question), i)
    return order


def ring_order(sets):
    if len(sets) < FEWEST_IN_RING or not meet_in_twos(sets):
        return None
    order = walk_round(sets)
    # Where they are several rings the walk comes back before it met all.
    return order if len(order) == len(sets) else None
