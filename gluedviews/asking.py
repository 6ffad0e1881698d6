"""Which sets of questions a further view may be of."""

from gluedviews.questions import members, world_count
from gluedviews.refusals import NOT_AS_TOLD, SAME_VIEW

MOST_ASKED = 3


def can_be_asked(desk, asked):
    return asked > 0 and asked < world_count(desk.question_count) and len(members(asked)) <= MOST_ASKED


def asking_refusal(desk, asked):
    if not can_be_asked(desk, asked):
        return NOT_AS_TOLD
    if asked in desk.asked_sets():
        return SAME_VIEW
    return None
