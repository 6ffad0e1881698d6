"""Calls written by name, and the answers taken apart again; for all tests of this folder."""

from gluedviews.desk import answers

NAMES = (
    "begin", "view", "unview", "table", "viewis", "world", "tree", "istree", "core", "bound",
    "glue", "likely", "told", "ring", "trap", "off", "worlds", "ifview", "without", "holds",
)

# One call of each form, with arguments that are fine where there are two questions and a view of both.
EACH_FORM = (
    ("begin", 2), ("view", 1), ("unview", 0), ("table", 0, 1, 2, 3, 4), ("viewis", 0), ("world", 0),
    ("tree",), ("istree",), ("core",), ("bound", 0), ("glue",), ("likely", 0), ("told", 3), ("ring",),
    ("trap",), ("off",), ("worlds",), ("ifview", 2), ("without",), ("holds", 1, 1, 1, 1),
)

LARGEST = 4294967295


def written(calls):
    numbers = []
    for call in calls:
        numbers.extend([NAMES.index(call[0]), len(call) - 1, *call[1:], 0])
    return numbers


def taken_apart(told):
    each = []
    at = 0
    while at < len(told):
        behind = at + 1 + told[at]
        if behind > len(told):
            raise AssertionError(f"an answer is cut short: {told}")
        each.append(told[at + 1:behind])
        at = behind
    return each


def run(*calls):
    each = taken_apart(answers(written(calls)))
    if len(each) != len(calls):
        raise AssertionError(f"{len(calls)} calls, {len(each)} answers")
    return each


def last(*calls):
    return run(*calls)[-1]


def with_views(question_count, sets):
    return [("begin", question_count)] + [("view", s) for s in sets]


def tables(calls, view_count):
    """What viewis shows of each view after these calls."""
    each = run(*calls, *[("viewis", i) for i in range(view_count)])
    return each[len(calls):]
