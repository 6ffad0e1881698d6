import itertools
import random
import unittest

from calling import LARGEST, bound_among, last, questions_of, run, spans_as_a_tree, takings, with_views


def told_of(n, sets):
    """tree, istree, core, then bound of each view."""
    begun = with_views(n, sets)
    asked = [("tree",), ("istree",), ("core",)] + [("bound", i) for i in range(len(sets))]
    return run(*begun, *asked)[len(begun):]


class Corners(unittest.TestCase):
    def tells(self, n, sets, *expected):
        self.assertEqual(told_of(n, sets), list(expected), sets)

    def test_no_views(self):
        self.tells(2, [], [0], [1], [0])

    def test_one_view(self):
        self.tells(3, [7], [0], [1], [1, 0], [0])

    def test_three_in_a_ring(self):
        self.tells(3, [3, 6, 5], [-33], [0], [3, 0, 1, 2], [3], [6], [5])

    def test_three_in_a_ring_and_one_of_all_three(self):
        self.tells(3, [3, 6, 5, 7], [3, 0, 3, 1, 3, 2, 3], [1], [1, 3], [3], [6], [5], [7])

    def test_the_first_one_is_looked_for_anew_after_each_step(self):
        self.tells(3, [7, 3, 6, 5], [3, 1, 0, 2, 0, 0, 3], [1], [1, 3], [7], [3], [6], [5])

    def test_a_view_within_another(self):
        self.tells(2, [1, 3], [1, 0, 1], [1], [1, 1], [1], [1])
        self.tells(2, [3, 1], [1, 0, 1], [1], [1, 1], [1], [1])

    def test_nothing_in_common(self):
        self.tells(3, [1, 2, 4], [2, 0, 1, 1, 2], [1], [1, 2], [0], [0], [0])
        self.tells(5, [3, 12], [1, 0, 1], [1], [1, 1], [0], [0])

    def test_four_of_three_questions_each_of_four(self):
        self.tells(4, [7, 11, 13, 14], [-33], [0], [4, 0, 1, 2, 3], [7], [11], [13], [14])

    def test_a_question_in_no_view(self):
        self.tells(4, [3, 6], [1, 0, 1], [1], [1, 1], [2], [2])

    def test_a_ring_of_five(self):
        self.tells(5, [3, 6, 12, 24, 17], [-33], [0], [5, 0, 1, 2, 3, 4], [3], [6], [12], [24], [17])

    def test_a_path_is_a_tree_that_a_ring_is_not(self):
        self.tells(5, [3, 6, 12, 24], [3, 0, 1, 1, 2, 2, 3], [1], [1, 3], [2], [6], [12], [8])

    def test_it_is_put_onto_the_first_one_possible(self):
        self.tells(4, [9, 3, 5], [2, 0, 1, 1, 2], [1], [1, 2], [1], [1], [1])
        self.tells(4, [6, 3, 12, 14], [3, 0, 3, 1, 3, 2, 3], [1], [1, 3], [6], [2], [12], [14])

    def test_what_hangs_on_a_ring_is_taken_off_it(self):
        self.tells(4, [3, 12, 6, 5], [-33], [0], [3, 0, 2, 3], [3], [4], [6], [5])
        self.tells(5, [3, 6, 5, 20, 8], [-33], [0], [3, 0, 1, 2], [3], [6], [5], [4], [0])

    def test_a_view_apart_from_a_ring(self):
        self.tells(4, [8, 3, 6, 5], [-33], [0], [3, 1, 2, 3], [0], [3], [6], [5])

    def test_a_last_view_that_is_taken_off_first(self):
        self.tells(5, [7, 25, 28, 3], [-33], [0], [3, 0, 1, 2], [7], [25], [28], [3])


class Calls(unittest.TestCase):
    def test_bound_of_no_such_view(self):
        self.assertEqual(last(("begin", 2), ("bound", 0)), [-2])
        for i in (2, 3, 6, LARGEST):
            self.assertEqual(last(*with_views(3, [3, 6]), ("bound", i)), [-2])

    def test_tables_do_not_matter(self):
        calls = with_views(3, [3, 6]) + [("table", 0, 1, 0, 0, 0), ("table", 1, 0, 0, 0, 9), ("tree",)]
        self.assertEqual(last(*calls), [1, 0, 1])

    def test_they_change_nothing(self):
        for sets in ([3, 6, 5], [3, 6, 12]):
            asked = [("tree",), ("istree",), ("core",), ("bound", 1), ("bound", 9)]
            looked = [("viewis", 0), ("viewis", 1), ("viewis", 2), ("viewis", 3)]
            begun = with_views(4, sets) + [("table", 1, 0, 1, 2, 3)]
            self.assertEqual(run(*begun, *asked, *looked)[-4:], run(*begun, *looked)[-4:])
            self.assertEqual(run(*begun, *asked, *asked)[-5:], run(*begun, *asked)[-5:])

    def test_after_unview(self):
        ring = with_views(3, [3, 6, 5])
        each = run(*ring, ("istree",), ("unview", 1), ("istree",), ("tree",), ("core",), ("bound", 1), ("bound", 2))
        self.assertEqual(each[4:], [[0], [2], [1], [1, 0, 1], [1, 1], [1], [-2]])

    def test_one_more_view_can_make_them_a_tree_again(self):
        each = run(*with_views(3, [3, 6, 5]), ("istree",), ("view", 7), ("istree",))
        self.assertEqual(each[4:], [[0], [3], [1]])


def fewest_and_most_left(views):
    """How few and how many are left in the end, whichever are taken off that can be."""
    counts = set()
    met = set()
    waiting = [tuple(range(len(views)))]
    while waiting:
        left = waiting.pop()
        if left in met:
            continue
        met.add(left)
        taken = {i for i, onto in takings(views, left)}
        if not taken:
            counts.add(len(left))
        waiting.extend(tuple(k for k in left if k != i) for i in taken)
    return min(counts), max(counts)


class AgainstTheWords(unittest.TestCase):
    def holds_for(self, n, sets):
        views = [questions_of(s) for s in sets]
        left = list(range(len(sets)))
        steps = []
        while takings(views, left):
            steps.append(min(takings(views, left)))
            left.remove(steps[-1][0])
        is_tree = spans_as_a_tree(views)
        tree = [len(steps)] + [i for step in steps for i in step] if is_tree else [-33]
        bounds = [[sum(1 << q for q in bound_among(views, range(len(sets)), i))] for i in range(len(sets))]
        self.assertEqual(told_of(n, sets), [tree, [int(is_tree)], [len(left)] + left] + bounds, sets)

    def test_all_of_three_questions(self):
        for count in range(7):
            for sets in itertools.permutations(range(1, 8), count):
                self.holds_for(3, sets)

    def test_many_of_four_and_five_questions(self):
        source = random.Random(20)
        for n in (4, 5):
            possible = [s for s in range(1, 1 << n) if len(questions_of(s)) <= 3]
            for turn in range(3000):
                self.holds_for(n, source.sample(possible, source.randint(0, 6)))

    def test_in_whichever_order_they_are_taken_off(self):
        source = random.Random(33)
        possible = [s for s in range(1, 32) if len(questions_of(s)) <= 3]
        for turn in range(1500):
            sets = source.sample(possible, source.randint(1, 6))
            fewest, most = fewest_and_most_left([questions_of(s) for s in sets])
            self.assertEqual(fewest, most)
            self.assertEqual(last(*with_views(5, sets), ("istree",)), [int(most <= 1)], sets)
