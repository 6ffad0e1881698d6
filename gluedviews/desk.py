"""The program's one way in: a list of calls is answered by a list of answers."""

from gluedviews.gluecalls import glue, likely, told
from gluedviews.refusals import NOT_BEGUN
from gluedviews.state import Desk
from gluedviews.treecalls import bound, core, ifview, istree, tree, without
from gluedviews.viewcalls import begin, table, unview, view, viewis, world
from gluedviews.wholecalls import holds, off, ring, trap, worlds

BEGIN = 0

# A call's place here is its number.
CALLS = (
    begin, view, unview, table, viewis, world, tree, istree, core, bound,
    glue, likely, told, ring, trap, off, worlds, ifview, without, holds,
)


def answer_of(desk, number, numbers):
    if number != BEGIN and not desk.has_begun():
        return [NOT_BEGUN]
    call = CALLS[number]
    return call(desk, numbers)


def answers(calls):
    desk = Desk()
    given = []
    at = 0
    while at < len(calls):
        behind = at + 2 + calls[at + 1]
        answer = answer_of(desk, calls[at], calls[at + 2:behind])
        given.append(len(answer))
        given.extend(answer)
        # No call has lists, so one number, their count of 0, stands before the next call.
        at = behind + 1
    return given
