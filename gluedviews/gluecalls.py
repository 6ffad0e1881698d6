"""The calls that tell of the glued whole: glue, likely, told."""

from gluedviews.gluing import glued_whole, whole_margin
from gluedviews.margins import first_apart
from gluedviews.questions import world_count
from gluedviews.refusals import NOT_A_TREE, NOT_ALL_AGREE, NOT_AS_TOLD
from gluedviews.taking import are_tree


def gluing_refusal(desk):
    if not are_tree(desk.asked_sets()):
        return NOT_A_TREE
    if first_apart(desk.views) is not None:
        return NOT_ALL_AGREE
    return None


def counted(ratios):
    answer = [len(ratios)]
    for ratio in ratios:
        answer.extend(list(ratio))
    return answer


def glue(desk, numbers):
    refusal = gluing_refusal(desk)
    if refusal is not None:
        return [refusal]
    return counted(glued_whole(desk.question_count, desk.views))


def likely(desk, numbers):
    world = numbers[0]
    if world >= world_count(desk.question_count):
        return [NOT_AS_TOLD]
    refusal = gluing_refusal(desk)
    if refusal is not None:
        return [refusal]
    whole = glued_whole(desk.question_count, desk.views)
    return [0] + list(whole[world])


def told(desk, numbers):
    asked = numbers[0]
    if asked >= world_count(desk.question_count):
        return [NOT_AS_TOLD]
    refusal = gluing_refusal(desk)
    if refusal is not None:
        return [refusal]
    whole = glued_whole(desk.question_count, desk.views)
    return counted(whole_margin(whole, asked))
