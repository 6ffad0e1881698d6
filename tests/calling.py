"""Calls written by name, answers taken apart again, the words told another way; for all tests of this folder."""

import itertools
from fractions import Fraction

from gluedviews.desk import answers

NAMES = (
    "begin", "view", "unview", "table", "viewis", "world", "tree", "istree", "core", "bound",
    "glue", "likely", "told", "ring", "trap", "off", "worlds", "ifview", "without", "holds",
)

# One call of each form, with arguments that are fine where there are two questions and a view of both.
EACH_FORM = (
    ("begin", 2), ("view", 1), ("unview", 0), ("table", 0, 1, 2, 3, 4), ("viewis", 0), ("world", 0),
    ("tree",), ("istree",), ("core",), ("bound", 0), ("glue",), ("likely", 0), ("told", 3), ("ring",),
    ("trap",), ("off",), ("worlds",), ("ifview", 2), ("without",), ("holds", 1, 1, 1, 1),
)

LARGEST = 4294967295


def written(calls):
    numbers = []
    for call in calls:
        numbers.extend([NAMES.index(call[0]), len(call) - 1, *call[1:], 0])
    return numbers


def taken_apart(told):
    each = []
    at = 0
    while at < len(told):
        behind = at + 1 + told[at]
        if behind > len(told):
            raise AssertionError(f"an answer is cut short: {told}")
        each.append(told[at + 1:behind])
        at = behind
    return each


def run(*calls):
    each = taken_apart(answers(written(calls)))
    if len(each) != len(calls):
        raise AssertionError(f"{len(calls)} calls, {len(each)} answers")
    return each


def last(*calls):
    return run(*calls)[-1]


def with_views(question_count, sets):
    return [("begin", question_count)] + [("view", s) for s in sets]


def tables(calls, view_count):
    """What viewis shows of each view after these calls."""
    each = run(*calls, *[("viewis", i) for i in range(view_count)])
    return each[len(calls):]


def with_tables(question_count, sets, rows):
    return with_views(question_count, sets) + [("table", i, *row) for i, row in enumerate(rows)]


def fractions_in(numbers):
    return [Fraction(numbers[k], numbers[k + 1]) for k in range(0, len(numbers), 2)]


def numbers_of(fractions):
    """Each as two numbers, with how many there are ahead."""
    return [len(fractions)] + [number for each in fractions for number in (each.numerator, each.denominator)]


def row_of(s, x):
    """The row that world x shows in a view of s."""
    questions = [q for q in range(5) if s & (1 << q)]
    return sum(2 ** k for k, q in enumerate(questions) if x & (1 << q))


def seen_of(counts, s):
    """The table of a view of s, if each world was seen as often as counts tells."""
    table = [0] * 2 ** bin(s).count("1")
    for x, count in enumerate(counts):
        table[row_of(s, x)] += count
    return table


def questions_of(s):
    return frozenset(q for q in range(5) if s & (1 << q))


def bound_among(views, left, i):
    others = frozenset().union(*[views[j] for j in left if j != i])
    return views[i] & others


def takings(views, left):
    return [(i, j) for i in left for j in left if i != j and bound_among(views, left, i) <= views[j]]


def spans_as_a_tree(views):
    """Whether the heaviest tree over the views, each edge as heavy as what its two views have in common,
    weighs what the views' questions are counted too often: another way to tell a tree."""
    weight = 0
    joined = {i: i for i in range(len(views))}
    pairs = itertools.combinations(range(len(views)), 2)
    for i, j in sorted(pairs, key=lambda pair: -len(views[pair[0]] & views[pair[1]])):
        if joined[i] != joined[j]:
            weight += len(views[i] & views[j])
            joined = {k: joined[i] if joined[k] == joined[j] else joined[k] for k in joined}
    return weight == sum(map(len, views)) - len(frozenset().union(*views))


def some_sets(source, n, most=6):
    """Sets that views may be of, none of them twice."""
    possible = [s for s in range(1, 1 << n) if len(questions_of(s)) <= 3]
    return source.sample(possible, source.randint(0, min(most, len(possible))))


def some_tree(source, n):
    sets = some_sets(source, n)
    while not spans_as_a_tree([questions_of(s) for s in sets]):
        sets = some_sets(source, n)
    return sets


def some_agreeing(source, n, sets, most_seen):
    """A table for each of the sets, all of them of one whole."""
    counts = [0] * (1 << n)
    for turn in range(source.randint(1, most_seen)):
        counts[source.randrange(1 << n)] += 1
    rows = []
    for s in sets:
        row = seen_of(counts, s)
        # The same told of another number of worlds: likely is by all of the table, not by its numbers.
        times = source.randint(1, 100 // max(row))
        rows.append([times * number for number in row])
    return rows
