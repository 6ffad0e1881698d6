import unittest

from calling import LARGEST, last, tables, with_views

BEGUN = with_views(4, [8, 5, 13])
ROWS = (2, 4, 8)


class Table(unittest.TestCase):
    def test_views_of_one_two_and_three_questions(self):
        for i, length in enumerate(ROWS):
            row = list(range(3, 3 + length))
            call = ("table", i, *row)
            self.assertEqual(last(*BEGUN, call), [0])
            shown = [[8] + [1] * 2, [5] + [1] * 4, [13] + [1] * 8]
            shown[i][1:] = row
            self.assertEqual(tables(BEGUN + [call], 3), shown)

    def test_it_may_come_again(self):
        self.assertEqual(tables(BEGUN + [("table", 0, 5, 6), ("table", 0, 0, 1)], 1), [[8, 0, 1]])

    def refused(self, i, row):
        given = [("table", 0, 3, 0), ("table", 1, 1, 0, 2, 9), ("table", 2, 8, 7, 6, 5, 4, 3, 2, 1)]
        call = ("table", i, *row)
        self.assertEqual(last(*BEGUN, *given, call), [-22], call)
        self.assertEqual(tables(BEGUN + given + [call], 3),
                         [[8, 3, 0], [5, 1, 0, 2, 9], [13, 8, 7, 6, 5, 4, 3, 2, 1]])

    def test_rows_too_short_too_long_and_none(self):
        for i, length in enumerate(ROWS):
            for other in range(11):
                if other != length:
                    self.refused(i, [1] * other)

    def test_a_number_of_a_hundred_is_fine(self):
        for i, length in enumerate(ROWS):
            for at in range(length):
                row = [0] * length
                row[at] = 100
                self.assertEqual(last(*BEGUN, ("table", i, *row)), [0])
                self.assertEqual(tables(BEGUN + [("table", i, *row)], 3)[i][1:], row)
            self.assertEqual(last(*BEGUN, ("table", i, *([100] * length))), [0])

    def test_a_number_above_a_hundred_is_refused_wherever_it_stands(self):
        for i, length in enumerate(ROWS):
            for at in range(length):
                for number in (101, LARGEST):
                    row = [1] * length
                    row[at] = number
                    self.refused(i, row)

    def test_all_0_is_refused(self):
        for i, length in enumerate(ROWS):
            self.refused(i, [0] * length)

    def test_one_that_is_not_0_is_enough(self):
        for i, length in enumerate(ROWS):
            for at in range(length):
                row = [0] * length
                row[at] = 1
                self.assertEqual(last(*BEGUN, ("table", i, *row)), [0])

    def test_there_is_no_such_view(self):
        self.assertEqual(last(("begin", 2), ("table", 0, 1, 1)), [-2])
        for i in (3, 4, 6, LARGEST):
            self.assertEqual(last(*BEGUN, ("table", i, 1, 1)), [-2])

    def test_no_such_view_stands_ahead_of_a_row_that_is_not_as_told(self):
        for row in ([], [0, 0], [101, 1], [1, 1, 1]):
            self.assertEqual(last(*BEGUN, ("table", 3, *row)), [-2])
            self.assertEqual(last(("begin", 2), ("table", 0, *row)), [-2])
