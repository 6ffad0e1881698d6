import unittest

from calling import LARGEST, last, run, tables, with_views

SIX = [1, 2, 4, 3, 5, 6]


class View(unittest.TestCase):
    def test_it_answers_its_number(self):
        each = run(*with_views(3, SIX))
        self.assertEqual(each, [[0], [0], [1], [2], [3], [4], [5]])

    def test_each_row_of_a_new_one_was_seen_once(self):
        for s, rows in ((1, 2), (16, 2), (3, 4), (17, 4), (7, 8), (21, 8), (28, 8)):
            self.assertEqual(tables(with_views(5, [s]), 1), [[s] + [1] * rows])

    def test_just_the_sets_of_one_to_three_questions_that_there_are(self):
        for n in (2, 3, 4, 5):
            for s in range(70):
                fine = s < (1 << n) and 1 <= bin(s).count("1") <= 3
                self.assertEqual(last(("begin", n), ("view", s)), [0 if fine else -22], (n, s))

    def test_the_empty_set(self):
        self.assertEqual(last(("begin", 3), ("view", 0)), [-22])

    def test_four_and_five_questions(self):
        for s in (15, 23, 27, 29, 30, 31):
            self.assertEqual(last(("begin", 5), ("view", s)), [-22])

    def test_a_question_that_there_is_not(self):
        for n in (2, 3, 4, 5):
            for s in (1 << n, (1 << n) + 1, 1 << 31, LARGEST):
                self.assertEqual(last(("begin", n), ("view", s)), [-22])

    def test_there_is_one_of_just_these(self):
        self.assertEqual(last(*with_views(3, [3, 5]), ("view", 5)), [-17])

    def test_one_within_another_is_not_the_same(self):
        self.assertEqual(last(*with_views(3, [7, 3]), ("view", 1)), [2])

    def test_at_most_six(self):
        self.assertEqual(last(*with_views(3, SIX), ("view", 7)), [-28])
        self.assertEqual(last(*with_views(5, [1, 2, 4, 8, 16, 24]), ("view", 7)), [-28])

    def test_which_refusal_is_answered_where_several_are_due(self):
        six = with_views(4, SIX)
        self.assertEqual(last(*six, ("view", 0)), [-22])
        self.assertEqual(last(*six, ("view", 15)), [-22])
        self.assertEqual(last(*six, ("view", LARGEST)), [-22])
        self.assertEqual(last(*six, ("view", 6)), [-17])
        self.assertEqual(last(*six, ("view", 1)), [-17])

    def test_a_refused_one_changes_nothing(self):
        six = with_views(4, SIX) + [("table", 3, 1, 2, 3, 4)]
        before = tables(six, 7)
        self.assertEqual(before[6], [-2])
        for s in (0, 15, 16, 3, 8):
            self.assertEqual(tables(six + [("view", s)], 7), before)

    def test_a_set_may_come_again_after_unview(self):
        self.assertEqual(last(*with_views(3, SIX), ("unview", 0), ("view", 1)), [5])


class Unview(unittest.TestCase):
    def test_how_many_are_left(self):
        each = run(*with_views(3, [1, 2, 4]), ("unview", 1), ("unview", 1), ("unview", 0), ("unview", 0))
        self.assertEqual(each[4:], [[2], [1], [0], [-2]])

    def test_those_behind_are_numbered_one_less(self):
        begun = with_views(3, [1, 2, 4]) + [("table", 0, 5, 6), ("table", 1, 7, 8), ("table", 2, 9, 10)]
        self.assertEqual(tables(begun + [("unview", 0)], 3), [[2, 7, 8], [4, 9, 10], [-2]])
        self.assertEqual(tables(begun + [("unview", 1)], 3), [[1, 5, 6], [4, 9, 10], [-2]])
        self.assertEqual(tables(begun + [("unview", 2)], 3), [[1, 5, 6], [2, 7, 8], [-2]])

    def test_there_is_no_such_view(self):
        for i in (2, 3, 6, LARGEST):
            begun = with_views(3, [1, 2])
            self.assertEqual(last(*begun, ("unview", i)), [-2])
            self.assertEqual(tables(begun + [("unview", i)], 3), [[1, 1, 1], [2, 1, 1], [-2]])
        self.assertEqual(last(("begin", 3), ("unview", 0)), [-2])


class Viewis(unittest.TestCase):
    def test_its_set_then_its_table(self):
        begun = with_views(5, [16, 9, 26])
        begun += [("table", 0, 0, 7), ("table", 1, 1, 2, 3, 4), ("table", 2, 8, 7, 6, 5, 4, 3, 2, 1)]
        self.assertEqual(tables(begun, 3), [[16, 0, 7], [9, 1, 2, 3, 4], [26, 8, 7, 6, 5, 4, 3, 2, 1]])

    def test_there_is_no_such_view(self):
        self.assertEqual(last(("begin", 2), ("viewis", 0)), [-2])
        for i in (1, 2, 6, LARGEST):
            self.assertEqual(last(*with_views(2, [3]), ("viewis", i)), [-2])
