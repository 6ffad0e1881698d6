"""The calls that tell how the views overlap: tree, istree, core, bound, ifview, without."""

from gluedviews.asking import asking_refusal
from gluedviews.refusals import NO_SUCH_VIEW, NOT_A_TREE
from gluedviews.taking import are_tree, bound_questions, core_of, steps_off


def tree(desk, numbers):
    sets = desk.asked_sets()
    if not are_tree(sets):
        return [NOT_A_TREE]
    steps = steps_off(sets)
    answer = [len(steps)]
    for step in steps:
        answer.extend(list(step))
    return answer


def istree(desk, numbers):
    return [1 if are_tree(desk.asked_sets()) else 0]


def core(desk, numbers):
    left = core_of(desk.asked_sets())
    return [len(left)] + left


def bound(desk, numbers):
    i = numbers[0]
    if not desk.has_view(i):
        return [NO_SUCH_VIEW]
    sets = desk.asked_sets()
    return [bound_questions(sets, list(range(len(sets))), i)]


def ifview(desk, numbers):
    asked = numbers[0]
    refusal = asking_refusal(desk, asked)
    if refusal is not None:
        return [refusal]
    return [1 if are_tree(desk.asked_sets() + [asked]) else 0]


def without(desk, numbers):
    sets = desk.asked_sets()
    found = [i for i in range(len(sets)) if are_tree(sets[:i] + sets[i + 1:])]
    return [len(found)] + found
