"""The calls that make, change and show views: begin, view, unview, table, viewis, world."""

from gluedviews.asking import asking_refusal
from gluedviews.questions import world_count
from gluedviews.refusals import NO_SUCH_VIEW, NOT_AS_TOLD, TOO_MANY_VIEWS
from gluedviews.state import MOST_SEEN, View

FEWEST_QUESTIONS = 2
MOST_QUESTIONS = 5
MOST_VIEWS = 6


def begin(desk, numbers):
    question_count = numbers[0]
    if question_count < FEWEST_QUESTIONS or question_count > MOST_QUESTIONS:
        return [NOT_AS_TOLD]
    desk.question_count = question_count
    desk.views = []
    return [0]


def view(desk, numbers):
    asked = numbers[0]
    refusal = asking_refusal(desk, asked)
    if refusal is not None:
        return [refusal]
    if len(desk.views) >= MOST_VIEWS:
        return [TOO_MANY_VIEWS]
    desk.views.append(View(asked))
    return [len(desk.views) - 1]


def unview(desk, numbers):
    i = numbers[0]
    if not desk.has_view(i):
        return [NO_SUCH_VIEW]
    desk.views.pop(i)
    return [len(desk.views)]


def can_be_table(row, length):
    return len(row) == length and max(row) <= MOST_SEEN and max(row) > 0


def table(desk, numbers):
    i = numbers[0]
    if not desk.has_view(i):
        return [NO_SUCH_VIEW]
    row = numbers[1:]
    changed = desk.views[i]
    if not can_be_table(row, len(changed.table)):
        return [NOT_AS_TOLD]
    changed.table = row
    return [0]


def viewis(desk, numbers):
    i = numbers[0]
    if not desk.has_view(i):
        return [NO_SUCH_VIEW]
    shown = desk.views[i]
    return [shown.asked] + shown.table


def world(desk, numbers):
    seen = numbers[0]
    if seen >= world_count(desk.question_count):
        return [NOT_AS_TOLD]
    for seeing in desk.views:
        seeing.see(seen)
    return [len(desk.views)]
