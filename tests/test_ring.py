import itertools
import unittest

from calling import last, questions_of, run, tables, with_tables, with_views
from gluedviews.rings import ring_order

RINGS = (
    (3, [3, 6, 5]), (4, [6, 3, 5]), (5, [17, 24, 9]), (4, [3, 6, 12, 9]), (5, [9, 10, 20, 6, 17]),
    (5, [3, 6, 12, 24, 17]),
)
# Too few; not of two questions each; a path; a ring and something else; a question in three views.
NO_RINGS = (
    (3, []), (3, [3]), (3, [3, 6]), (3, [7]), (3, [1, 2, 4]), (3, [3, 6, 4]), (4, [3, 6, 12]), (5, [3, 6, 12, 24]),
    (4, [3, 6, 5, 8]), (5, [3, 6, 5, 24]), (4, [3, 6, 5, 12]), (4, [3, 5, 9]), (4, [7, 11, 13, 14]), (3, [3, 6, 5, 7]),
    (3, [3, 6, 5, 1]), (4, [3, 6, 12, 9, 5]), (4, [3, 12, 6, 9, 5, 10]), (5, [7, 28, 17]), (4, [3, 6, 13]),
    # Each question is in two views, but not each view is of two questions.
    (2, [3, 2, 1]), (2, [1, 2, 3]), (4, [3, 14, 13]), (4, [7, 11, 12]), (3, [7, 3, 4]), (5, [7, 25, 30]),
)


class Ring(unittest.TestCase):
    def test_three(self):
        self.assertEqual(last(*with_views(3, [3, 6, 5]), ("ring",)), [3, 0, 1, 2])
        self.assertEqual(last(*with_views(3, [3, 5, 6]), ("ring",)), [3, 0, 2, 1])
        self.assertEqual(last(*with_views(3, [5, 3, 6]), ("ring",)), [3, 0, 2, 1])
        self.assertEqual(last(*with_views(3, [6, 3, 5]), ("ring",)), [3, 0, 2, 1])

    def test_four(self):
        self.assertEqual(last(*with_views(4, [3, 12, 9, 6]), ("ring",)), [4, 0, 3, 1, 2])
        self.assertEqual(last(*with_views(4, [5, 9, 10, 6]), ("ring",)), [4, 0, 3, 2, 1])

    def test_five(self):
        self.assertEqual(last(*with_views(5, [3, 6, 12, 24, 17]), ("ring",)), [5, 0, 1, 2, 3, 4])
        self.assertEqual(last(*with_views(5, [17, 6, 3, 24, 12]), ("ring",)), [5, 0, 3, 4, 1, 2])

    def test_a_question_in_none(self):
        self.assertEqual(last(*with_views(5, [17, 9, 24]), ("ring",)), [3, 0, 2, 1])

    def test_the_tables_do_not_matter(self):
        begun = with_tables(3, [3, 6, 5], [[0, 0, 1, 1], [1, 0, 1, 0], [9, 0, 0, 0]])
        self.assertEqual(last(*begun, ("ring",)), [3, 0, 1, 2])

    def test_they_are_not_one(self):
        for n, sets in NO_RINGS:
            self.assertEqual(last(*with_views(n, sets), ("ring",)), [-6], sets)

    def test_after_unview(self):
        begun = with_views(4, [8, 3, 6, 5])
        self.assertEqual(run(*begun, ("ring",), ("unview", 0), ("ring",), ("unview", 1), ("ring",))[5:],
                         [[-6], [3], [3, 0, 1, 2], [2], [-6]])

    def test_two_rings_do_not_hang_together(self):
        # Two rings need more questions than a begin allows.
        self.assertIsNone(ring_order([3, 6, 5, 24, 48, 40]))
        self.assertEqual(ring_order([3, 6, 12, 24, 48, 33]), [0, 1, 2, 3, 4, 5])


class Trap(unittest.TestCase):
    def test_unlike_in_view_0_alike_in_all_others(self):
        for n, sets in RINGS:
            begun = with_views(n, sets)
            self.assertEqual(last(*begun, ("trap",)), [len(sets)])
            self.assertEqual(tables(begun + [("trap",)], len(sets)),
                             [[sets[0], 0, 1, 1, 0]] + [[s, 1, 0, 0, 1] for s in sets[1:]])

    def test_whatever_the_tables_were(self):
        begun = with_tables(3, [3, 6, 5], [[9, 9, 9, 100], [0, 0, 1, 0], [4, 3, 2, 1]])
        self.assertEqual(tables(begun + [("trap",)], 3), [[3, 0, 1, 1, 0], [6, 1, 0, 0, 1], [5, 1, 0, 0, 1]])

    def test_each_view_has_a_table_of_its_own(self):
        begun = with_views(3, [3, 6, 5]) + [("trap",), ("world", 0)]
        self.assertEqual(tables(begun, 3), [[3, 1, 1, 1, 0], [6, 2, 0, 0, 1], [5, 2, 0, 0, 1]])
        self.assertEqual(tables(begun + [("trap",)], 3), [[3, 0, 1, 1, 0], [6, 1, 0, 0, 1], [5, 1, 0, 0, 1]])

    def test_it_changes_nothing_but_tables(self):
        for n, sets in RINGS:
            begun = with_views(n, sets)
            asked = [("tree",), ("istree",), ("core",), ("ring",), ("without",), ("ifview", 1), ("bound", 0),
                     ("view", 1 << n), ("view", (1 << n) - 1), ("view", 1 << (n - 1)), ("core",)]
            self.assertEqual(run(*begun, ("trap",), *asked)[-len(asked):], run(*begun, *asked)[-len(asked):])

    def test_they_are_not_one(self):
        for n, sets in NO_RINGS:
            begun = with_views(n, sets) + [("world", 1), ("world", 3)]
            self.assertEqual(last(*begun, ("trap",)), [-6], sets)
            self.assertEqual(tables(begun + [("trap",)], len(sets) + 1), tables(begun, len(sets) + 1))

    def test_a_ring_with_the_trap_agrees_and_no_world_fits_it(self):
        for n, sets in RINGS:
            each = run(*with_views(n, sets), ("trap",), ("off",), ("worlds",))
            self.assertEqual(each[-3:], [[len(sets)], [-6], [0]])

    def test_a_ring_with_the_trap_comes_of_no_whole(self):
        for n, sets in RINGS:
            begun = with_views(n, sets) + [("trap",)]
            wholes = [[1] * (1 << n)]
            for x in range(1 << n):
                wholes.append([int(y == x) for y in range(1 << n)])
                wholes.append([int(y in (x, (1 << n) - 1 - x)) for y in range(1 << n)])
            for whole in wholes:
                self.assertEqual(last(*begun, ("holds", *whole)), [0])


def order_by_the_words(sets):
    """The one order, or None, looked for among all orders."""
    views = [questions_of(s) for s in sets]
    if len(views) < 3 or any(len(view) != 2 for view in views):
        return None
    for order in itertools.permutations(range(1, len(views))):
        round_of = [views[0]] + [views[i] for i in order]
        meets = [round_of[k] & round_of[(k + 1) % len(round_of)] for k in range(len(round_of))]
        if all(len(meet) == 1 for meet in meets) and len(frozenset().union(*meets)) == len(views):
            if max(views[0]) in meets[0]:
                return [0, *order]
    return None


class AgainstTheWords(unittest.TestCase):
    def holds_for(self, n, sets):
        order = order_by_the_words(sets)
        expected = [-6] if order is None else [len(order)] + order
        self.assertEqual(last(*with_views(n, sets), ("ring",)), expected, sets)

    def test_all_views_of_two_questions_each(self):
        pairs = [s for s in range(32) if len(questions_of(s)) == 2]
        for count in range(7):
            for sets in itertools.combinations(pairs, count):
                self.holds_for(5, list(sets))
                self.holds_for(5, list(reversed(sets)))

    def test_all_rings_in_all_orders(self):
        for n, sets in RINGS:
            for other in itertools.permutations(sets):
                self.assertIsNotNone(order_by_the_words(other))
                self.holds_for(n, list(other))
