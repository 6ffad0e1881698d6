import unittest

from calling import EACH_FORM, LARGEST, last, run, with_views


class Begin(unittest.TestCase):
    def test_two_to_five_questions(self):
        for n in (2, 3, 4, 5):
            self.assertEqual(run(("begin", n)), [[0]])

    def test_there_are_just_as_many_questions(self):
        for n in (2, 3, 4, 5):
            each = run(("begin", n), ("view", 1 << (n - 1)), ("view", 1 << n))
            self.assertEqual(each, [[0], [0], [-22]])

    def test_other_counts_are_refused(self):
        for n in (0, 1, 6, 7, 32, LARGEST):
            self.assertEqual(run(("begin", n)), [[-22]])

    def test_it_begins_without_views(self):
        self.assertEqual(run(("begin", 2), ("viewis", 0), ("core",)), [[0], [-2], [0]])

    def test_it_may_come_again(self):
        each = run(*with_views(5, [17, 3]), ("begin", 3), ("viewis", 0), ("view", 8), ("view", 4), ("viewis", 0))
        self.assertEqual(each[3:], [[0], [-2], [-22], [0], [4, 1, 1]])

    def test_the_same_count_again_takes_the_views_away(self):
        self.assertEqual(last(*with_views(3, [1, 2]), ("begin", 3), ("world", 0)), [0])

    def test_a_refused_one_changes_nothing(self):
        for n in (0, 1, 6, LARGEST):
            each = run(*with_views(3, [3, 4]), ("table", 1, 5, 6), ("begin", n), ("viewis", 0), ("viewis", 1),
                       ("view", 8), ("view", 5))
            self.assertEqual(each[4:], [[-22], [3, 1, 1, 1, 1], [4, 5, 6], [-22], [2]])

    def test_all_else_is_refused_before(self):
        for call in EACH_FORM[1:]:
            self.assertEqual(run(call), [[-11]], call)

    def test_all_else_is_refused_before_whatever_its_numbers(self):
        for call in (("view", 0), ("unview", LARGEST), ("table", 9), ("table", 0, 101), ("viewis", 7),
                     ("world", LARGEST), ("bound", 6), ("likely", 99), ("told", 99), ("ifview", 0), ("holds",)):
            self.assertEqual(run(call), [[-11]], call)

    def test_a_refused_begin_does_not_begin(self):
        for n in (0, 1, 6, LARGEST):
            each = run(("begin", n), *EACH_FORM[1:])
            self.assertEqual(each, [[-22]] + [[-11]] * 19)

    def test_what_is_refused_before_is_not_done(self):
        self.assertEqual(run(("view", 1), ("begin", 2), ("core",)), [[-11], [0], [0]])
