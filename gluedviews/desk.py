"""The program's one way in: a list of calls is answered by a list of answers."""

from gluedviews.refusals import NOT_BEGUN
from gluedviews.state import Desk
from gluedviews.treecalls import bound, core, istree, tree
from gluedviews.viewcalls import begin, table, unview, view, viewis, world

BEGIN = 0

# A call's place here is its number.
CALLS = (begin, view, unview, table, viewis, world, tree, istree, core, bound)


def answer_of(desk, number, numbers):
    if number != BEGIN and not desk.has_begun():
        return [NOT_BEGUN]
    # The calls from 10 on aren't built yet: no number at all is what no promised answer looks like.
    if number >= len(CALLS):
        return []
    call = CALLS[number]
    return call(desk, numbers)


def answers(calls):
    desk = Desk()
    told = []
    at = 0
    while at < len(calls):
        behind = at + 2 + calls[at + 1]
        answer = answer_of(desk, calls[at], calls[at + 2:behind])
        told.append(len(answer))
        told.extend(answer)
        # No call has lists, so one number, their count of 0, stands before the next call.
        at = behind + 1
    return told
