import unittest

from calling import LARGEST, last, run, tables, with_views


class World(unittest.TestCase):
    def test_how_many_views(self):
        for sets in ([], [1], [1, 2], [1, 2, 4, 3, 5, 6]):
            self.assertEqual(last(*with_views(3, sets), ("world", 5)), [len(sets)])

    def test_the_row_that_it_shows_has_one_more(self):
        # World 6 of three questions: 0 is answered 0, 1 and 2 are answered 1.
        shown = tables(with_views(3, [1, 2, 3, 6, 7]) + [("world", 6)], 5)
        self.assertEqual(shown, [[1, 2, 1], [2, 1, 2], [3, 1, 1, 2, 1], [6, 1, 1, 1, 2],
                                 [7, 1, 1, 1, 1, 1, 1, 2, 1]])

    def test_questions_that_are_not_side_by_side(self):
        # World 18 of five: 1 and 4 are answered 1.
        shown = tables(with_views(5, [17, 9, 18, 21, 26]) + [("world", 18)], 5)
        self.assertEqual(shown, [[17, 1, 1, 2, 1], [9, 2, 1, 1, 1], [18, 1, 1, 1, 2],
                                 [21, 1, 1, 1, 1, 2, 1, 1, 1], [26, 1, 1, 1, 1, 1, 2, 1, 1]])

    def test_each_world_in_each_view(self):
        for n in (2, 3, 4, 5):
            for s in range(1, 1 << n):
                questions = [q for q in range(n) if s & (1 << q)]
                if len(questions) > 3:
                    continue
                for x in range(1 << n):
                    row = sum(2 ** k for k, q in enumerate(questions) if x & (1 << q))
                    expected = [1] * 2 ** len(questions)
                    expected[row] = 2
                    self.assertEqual(tables([("begin", n), ("view", s), ("world", x)], 1), [[s] + expected])

    def test_several_worlds_add_up(self):
        shown = tables(with_views(2, [1, 3]) + [("world", 3), ("world", 3), ("world", 1)], 2)
        self.assertEqual(shown, [[1, 1, 4], [3, 1, 2, 1, 3]])

    def test_a_row_that_was_never_seen(self):
        shown = tables(with_views(2, [3]) + [("table", 0, 5, 0, 0, 0), ("world", 2)], 1)
        self.assertEqual(shown, [[3, 5, 0, 1, 0]])

    def test_never_more_than_a_hundred(self):
        begun = with_views(2, [1, 2]) + [("table", 0, 3, 99), ("table", 1, 100, 100)]
        self.assertEqual(tables(begun + [("world", 1)], 2), [[1, 3, 100], [2, 100, 100]])
        self.assertEqual(tables(begun + [("world", 1), ("world", 1)], 2), [[1, 3, 100], [2, 100, 100]])
        self.assertEqual(last(*begun, ("world", 1), ("world", 1)), [2])

    def test_a_full_row_of_one_view_does_not_keep_the_others_from_seeing(self):
        begun = with_views(2, [1, 2, 3]) + [("table", 0, 100, 100)]
        self.assertEqual(tables(begun + [("world", 0)], 3), [[1, 100, 100], [2, 2, 1], [3, 2, 1, 1, 1]])

    def test_no_views(self):
        self.assertEqual(run(("begin", 2), ("world", 3), ("view", 3), ("viewis", 0))[1:], [[0], [0], [3, 1, 1, 1, 1]])

    def test_there_is_no_such_world(self):
        for n in (2, 3, 4, 5):
            self.assertEqual(last(*with_views(n, [1]), ("world", (1 << n) - 1)), [1])
            for x in (1 << n, (1 << n) + 1, LARGEST):
                self.assertEqual(last(*with_views(n, [1]), ("world", x)), [-22])
                self.assertEqual(last(("begin", n), ("world", x)), [-22])
                self.assertEqual(tables(with_views(n, [1]) + [("world", x)], 1), [[1, 1, 1]])
