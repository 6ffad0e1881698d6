"""The calls that tell whether the tables can come of one whole: ring, trap, off, worlds, holds."""

from gluedviews.margins import equally_likely, first_apart, margin
from gluedviews.questions import all_questions, world_count
from gluedviews.refusals import NONE_FOUND, NOT_AS_TOLD
from gluedviews.rings import ring_order

UNLIKE = (0, 1, 1, 0)
ALIKE = (1, 0, 0, 1)


def ring(desk, numbers):
    order = ring_order(desk.asked_sets())
    if order is None:
        return [NONE_FOUND]
    return [len(order)] + order


def trap(desk, numbers):
    if ring_order(desk.asked_sets()) is None:
        return [NONE_FOUND]
    for i, trapped in enumerate(desk.views):
        trapped.table = list(UNLIKE if i == 0 else ALIKE)
    return [len(desk.views)]


def off(desk, numbers):
    apart = first_apart(desk.views)
    if apart is None:
        return [NONE_FOUND]
    return list(apart)


def fits_all(views, world):
    return all([view.times_seen(world) > 0 for view in views])


def worlds(desk, numbers):
    fitting = [world for world in range(world_count(desk.question_count)) if fits_all(desk.views, world)]
    return [len(fitting)] + fitting


def can_be_whole(row, length):
    return len(row) == length and max(row) > 0


def holds(desk, numbers):
    if not can_be_whole(numbers, world_count(desk.question_count)):
        return [NOT_AS_TOLD]
    # A whole's numbers stand by worlds, which are the rows of answers to all questions.
    asked = all_questions(desk.question_count)
    for view in desk.views:
        if not equally_likely(margin(asked, numbers, view.asked), view.table):
            return [0]
    return [1]
