import random
import unittest
from fractions import Fraction

from calling import (LARGEST, fractions_in, last, numbers_of, questions_of, row_of, run, seen_of, some_agreeing,
                     some_tree, tables, takings, with_tables, with_views)

RING = with_views(3, [3, 6, 5])
# View 0 says that question 1 is answered 1 every time, view 1 never.
APART = with_tables(3, [3, 6], [[0, 0, 1, 1], [1, 0, 1, 0]])
# Neither a tree, nor do the first two agree.
NEITHER = RING + [("table", 0, 0, 0, 1, 1), ("table", 1, 1, 0, 1, 0)]
PATH = with_tables(3, [3, 6], [[1, 2, 3, 2], [2, 4, 1, 1]])


class Glue(unittest.TestCase):
    def test_a_path(self):
        # Question 1: 0 is 3/8, 1 is 5/8, by both views. World 0: 1/8 by view 0 is 1/3 of these; 2/8 by view 1.
        self.assertEqual(last(*PATH, ("glue",)),
                         [8, 1, 12, 1, 6, 3, 10, 1, 5, 1, 24, 1, 12, 3, 40, 1, 20])

    def test_views_of_three_questions(self):
        begun = with_tables(4, [7, 14], [[1, 0, 1, 0, 0, 1, 0, 1], [1, 1, 1, 1, 0, 0, 0, 0]])
        expected = [16, 1, 4, 0, 1, 1, 4, 0, 1, 0, 1, 1, 4, 0, 1, 1, 4] + [0, 1] * 8
        self.assertEqual(last(*begun, ("glue",)), expected)

    def test_a_fraction_has_nothing_in_common(self):
        begun = with_tables(2, [3], [[0, 100, 50, 50]])
        self.assertEqual(last(*begun, ("glue",)), [4, 0, 1, 1, 2, 1, 4, 1, 4])
        self.assertEqual(last(*with_tables(2, [3], [[0, 0, 0, 7]]), ("glue",)), [4, 0, 1, 0, 1, 0, 1, 1, 1])

    def test_they_agree_though_they_were_seen_another_number_of_times(self):
        begun = with_tables(2, [1, 3], [[1, 2], [30, 40, 0, 20]])
        self.assertEqual(last(*begun, ("glue",)), [4, 1, 3, 4, 9, 0, 1, 2, 9])

    def test_new_views(self):
        for sets in ([3], [3, 6], [7, 28], [1, 2, 4, 8, 16], [3, 6, 5, 7]):
            self.assertEqual(last(*with_views(5, sets), ("glue",)), [32] + [1, 32] * 32)

    def test_after_worlds_that_were_seen(self):
        begun = with_views(2, [1, 3]) + [("table", 0, 2, 2), ("world", 1), ("world", 1)]
        self.assertEqual(last(*begun, ("glue",)), [4, 1, 6, 1, 2, 1, 6, 1, 6])

    def test_not_a_tree(self):
        self.assertEqual(last(*RING, ("glue",)), [-33])
        self.assertEqual(last(*RING, ("trap",), ("glue",)), [-33])

    def test_not_all_agree(self):
        self.assertEqual(last(*APART, ("glue",)), [-30])
        # Those that don't agree are never put one onto the other.
        path = with_tables(3, [3, 5, 1], [[1, 1, 1, 1], [1, 1, 1, 1], [1, 1]])
        for i in range(3):
            row = [1, 2] if i == 2 else [1, 2, 1, 2]
            self.assertEqual(last(*path, ("table", i, *row), ("glue",)), [-30])

    def test_not_a_tree_stands_ahead_of_not_all_agree(self):
        self.assertEqual(last(*NEITHER, ("off",)), [0, 1])
        self.assertEqual(last(*NEITHER, ("glue",)), [-33])

    def test_large_numbers(self):
        begun = with_tables(5, [7, 14, 28], [[97, 89, 83, 79, 73, 71, 67, 61], [93, 81, 72, 64, 93, 81, 72, 64],
                                             [87, 87, 68, 68, 87, 87, 68, 68]])
        self.assertEqual(last(*begun, ("glue",)), [-30])
        begun = with_tables(5, [7, 24], [[97, 89, 83, 79, 73, 71, 67, 61], [89, 97, 83, 79]])
        self.assertEqual(last(*begun, ("likely", 31)), [0, 61 * 79, 620 * 348])


class Likely(unittest.TestCase):
    def test_each_world_of_a_path(self):
        whole = last(*PATH, ("glue",))
        for x in range(8):
            self.assertEqual(last(*PATH, ("likely", x)), [0] + whole[1 + 2 * x:3 + 2 * x])

    def test_one_view(self):
        self.assertEqual(last(*with_tables(2, [1], [[1, 2]]), ("likely", 3)), [0, 1, 3])
        self.assertEqual(last(*with_tables(2, [1], [[0, 2]]), ("likely", 2)), [0, 0, 1])

    def test_there_is_no_such_world(self):
        for n in (2, 3, 4, 5):
            self.assertEqual(last(("begin", n), ("likely", (1 << n) - 1)), [0, 1, 1 << n])
            for x in (1 << n, (1 << n) + 1, LARGEST):
                self.assertEqual(last(("begin", n), ("likely", x)), [-22])

    def test_not_a_tree_and_not_all_agree(self):
        self.assertEqual(last(*RING, ("likely", 0)), [-33])
        self.assertEqual(last(*APART, ("likely", 7)), [-30])

    def test_which_refusal_is_answered_where_several_are_due(self):
        for begun in (RING, APART, NEITHER):
            for x in (8, LARGEST):
                self.assertEqual(last(*begun, ("likely", x)), [-22])
        self.assertEqual(last(*NEITHER, ("likely", 1)), [-33])


class Told(unittest.TestCase):
    def test_questions_that_no_view_has_together(self):
        self.assertEqual(last(*PATH, ("told", 5)), [4, 23, 60, 11, 30, 7, 60, 2, 15])

    def test_one_question(self):
        self.assertEqual(last(*PATH, ("told", 1)), [2, 1, 2, 1, 2])
        self.assertEqual(last(*PATH, ("told", 2)), [2, 3, 8, 5, 8])
        self.assertEqual(last(*PATH, ("told", 4)), [2, 3, 4, 1, 4])

    def test_a_view_s_own_questions(self):
        self.assertEqual(last(*PATH, ("told", 3)), [4, 1, 8, 1, 4, 3, 8, 1, 4])
        self.assertEqual(last(*PATH, ("told", 6)), [4, 1, 4, 1, 2, 1, 8, 1, 8])

    def test_all_questions(self):
        for begun in (PATH, with_views(5, [3, 6, 16]), [("begin", 4)]):
            n = begun[0][1]
            self.assertEqual(last(*begun, ("told", (1 << n) - 1)), last(*begun, ("glue",)))

    def test_no_question_has_one_row(self):
        for begun in (PATH, [("begin", 2)], with_views(5, [7, 28])):
            self.assertEqual(last(*begun, ("told", 0)), [1, 1, 1])

    def test_four_questions_may_be_asked_here(self):
        self.assertEqual(last(*with_tables(5, [1], [[0, 1]]), ("told", 27)), [16] + [0, 1, 1, 8] * 8)

    def test_no_set_of_questions(self):
        for n in (2, 3, 4, 5):
            for s in (1 << n, (1 << n) + 1, 1 << 31, LARGEST):
                self.assertEqual(last(("begin", n), ("told", s)), [-22])

    def test_not_a_tree_and_not_all_agree(self):
        for s in (0, 3, 7):
            self.assertEqual(last(*RING, ("told", s)), [-33])
            self.assertEqual(last(*APART, ("told", s)), [-30])

    def test_which_refusal_is_answered_where_several_are_due(self):
        for begun in (RING, APART, NEITHER):
            for s in (8, LARGEST):
                self.assertEqual(last(*begun, ("told", s)), [-22])
        self.assertEqual(last(*NEITHER, ("told", 3)), [-33])


class TheyChangeNothing(unittest.TestCase):
    def test_answered_or_refused(self):
        for begun in (PATH, RING, APART, NEITHER):
            before = tables(begun, 4)
            for call in (("glue",), ("likely", 1), ("likely", 8), ("told", 5), ("told", 8)):
                self.assertEqual(tables(begun + [call], 4), before)


class Corners(unittest.TestCase):
    def glued(self, begun, *expected):
        self.assertEqual(last(*begun, ("glue",)), [len(expected) // 2, *expected])

    def test_no_views(self):
        for n in (2, 3, 4, 5):
            self.glued([("begin", n)], *([1, 1 << n] * (1 << n)))

    def test_one_view(self):
        self.glued(with_tables(2, [3], [[1, 2, 3, 4]]), 1, 10, 1, 5, 3, 10, 2, 5)

    def test_three_in_a_ring_and_one_of_all_three(self):
        counts = [1, 2, 0, 1, 3, 0, 1, 2]
        for sets in ([3, 6, 5, 7], [7, 3, 6, 5], [5, 7, 3, 6]):
            begun = with_tables(3, sets, [seen_of(counts, s) for s in sets])
            self.glued(begun, 1, 10, 1, 5, 0, 1, 1, 10, 3, 10, 0, 1, 1, 10, 1, 5)

    def test_the_trap_s_tables_do_not_agree_with_a_view_of_all_three(self):
        self.assertEqual(last(*RING, ("trap",), ("view", 7), ("glue",)), [-30])

    def test_a_view_within_another(self):
        self.glued(with_tables(2, [1, 3], [[1, 3], [1, 2, 0, 1]]), 1, 4, 1, 2, 0, 1, 1, 4)
        self.glued(with_tables(2, [3, 1], [[1, 2, 0, 1], [1, 3]]), 1, 4, 1, 2, 0, 1, 1, 4)
        self.assertEqual(last(*with_tables(2, [3, 1], [[1, 2, 0, 1], [1, 2]]), ("glue",)), [-30])

    def test_nothing_in_common(self):
        self.glued(with_tables(2, [1, 2], [[1, 2], [1, 4]]), 1, 15, 2, 15, 4, 15, 8, 15)

    def test_a_row_that_is_never_seen_in_what_two_have_in_common(self):
        begun = with_tables(3, [3, 6], [[1, 2, 0, 0], [1, 0, 2, 0]])
        self.glued(begun, 1, 9, 2, 9, 0, 1, 0, 1, 2, 9, 4, 9, 0, 1, 0, 1)
        self.assertEqual(last(*begun, ("told", 5)), [4, 1, 9, 2, 9, 2, 9, 4, 9])
        self.assertEqual(last(*begun, ("likely", 7)), [0, 0, 1])

    def test_four_of_three_questions_each_of_four(self):
        each = run(*with_views(4, [7, 11, 13, 14]), ("glue",), ("likely", 15), ("told", 15))
        self.assertEqual(each[5:], [[-33]] * 3)

    def test_a_question_in_no_view(self):
        self.glued(with_tables(2, [2], [[1, 2]]), 1, 6, 1, 6, 1, 3, 1, 3)
        begun = with_tables(4, [3, 6], [[1, 2, 3, 2], [2, 4, 1, 1]])
        self.assertEqual(last(*begun, ("told", 8)), [2, 1, 2, 1, 2])
        self.assertEqual(last(*begun, ("likely", 13)), [0, 1, 24])

    def test_a_ring_of_five(self):
        each = run(*with_views(5, [3, 6, 12, 24, 17]), ("glue",), ("likely", 31), ("told", 0))
        self.assertEqual(each[6:], [[-33]] * 3)


def glued_by_the_words(n, sets, rows):
    views = [questions_of(s) for s in sets]
    left = list(range(len(sets)))
    whole = [Fraction(1, 2 ** (n - len(frozenset().union(*views))))] * (1 << n)
    while takings(views, left):
        i, onto = min(takings(views, left))
        left.remove(i)
        common = sets[i] & sets[onto]
        for x in range(1 << n):
            row = Fraction(rows[i][row_of(sets[i], x)], sum(rows[i]))
            alike = [y for y in range(1 << n) if (x ^ y) & common == 0 and y & ~sets[i] == 0]
            margin = Fraction(sum(rows[i][row_of(sets[i], y)] for y in alike), sum(rows[i]))
            whole[x] *= row / margin if margin else 0
    for i in left:
        for x in range(1 << n):
            whole[x] *= Fraction(rows[i][row_of(sets[i], x)], sum(rows[i]))
    return whole


class AgainstTheWords(unittest.TestCase):
    def test_many_trees_that_agree(self):
        source = random.Random(10)
        for turn in range(400):
            n = source.randint(2, 5)
            sets = some_tree(source, n)
            rows = some_agreeing(source, n, sets, source.choice((3, 10, 30)))
            whole = glued_by_the_words(n, sets, rows)
            x = source.randrange(1 << n)
            s = source.randrange(1 << n)
            asked = [sum(whole[y] for y in range(1 << n) if row_of(s, y) == row)
                     for row in range(2 ** bin(s).count("1"))]
            begun = with_tables(n, sets, rows)
            each = run(*begun, ("glue",), ("likely", x), ("told", s))[len(begun):]
            self.assertEqual(each, [numbers_of(whole), [0] + numbers_of([whole[x]])[1:], numbers_of(asked)], begun)

    def test_what_is_glued_is_a_whole_and_has_all_their_tables(self):
        source = random.Random(11)
        for turn in range(300):
            n = source.randint(2, 5)
            sets = some_tree(source, n)
            rows = some_agreeing(source, n, sets, 30)
            begun = with_tables(n, sets, rows)
            told = last(*begun, ("glue",))
            whole = fractions_in(told[1:])
            self.assertEqual((told[0], len(whole), sum(whole)), (1 << n, 1 << n, 1))
            self.assertGreaterEqual(min(whole), 0)
            for s, row in zip(sets, rows):
                self.assertEqual(seen_of(whole, s), [Fraction(number, sum(row)) for number in row])
