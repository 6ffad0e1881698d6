"""Taking views off, one by one. The views are told as a list of their sets of questions."""

from gluedviews.questions import is_within


def bound_questions(sets, left, i):
    others = 0
    for j in left:
        if j != i:
            others = others | sets[j]
    return sets[i] & others


def first_onto(sets, left, i):
    bound = bound_questions(sets, left, i)
    for j in left:
        if j != i and is_within(bound, sets[j]):
            return j
    return None


def first_step(sets, left):
    for i in left:
        onto = first_onto(sets, left, i)
        if onto is not None:
            return (i, onto)
    return None


def views_left(sets, steps):
    taken = [step[0] for step in steps]
    return [i for i in range(len(sets)) if i not in taken]


# Each step is (the view that's taken off, the view onto which it's put).
def steps_off(sets):
    steps = []
    step = first_step(sets, views_left(sets, steps))
    while step is not None:
        steps.append(step)
        step = first_step(sets, views_left(sets, steps))
    return steps


def core_of(sets):
    return views_left(sets, steps_off(sets))


def are_tree(sets):
    return len(core_of(sets)) <= 1
