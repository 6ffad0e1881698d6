"""ifview and without: the views with one more, and with one less."""

import itertools
import random
import unittest

from calling import LARGEST, last, questions_of, run, some_sets, spans_as_a_tree, tables, with_views

SIX = [1, 2, 4, 3, 5, 6]


class Ifview(unittest.TestCase):
    def test_with_that_one_too(self):
        for n, sets, s, expected in (
            (3, [3, 6], 5, 0), (3, [3, 6], 4, 1), (3, [3, 6, 5], 7, 1), (4, [3, 6, 5], 8, 0), (4, [3, 6, 5], 14, 0),
            (4, [3, 6, 12], 9, 0), (4, [3, 6, 12], 14, 1), (5, [3, 6, 12], 24, 1), (4, [3, 6, 12, 9], 7, 0),
            (4, [7, 11, 13], 14, 0), (5, [3, 6, 12, 24], 17, 0),
        ):
            self.assertEqual(last(*with_views(n, sets), ("ifview", s)), [expected], (sets, s))

    def test_no_views(self):
        for s in (1, 3, 7, 28):
            self.assertEqual(last(("begin", 5), ("ifview", s)), [1])

    def test_just_the_sets_that_a_view_may_be_of(self):
        for n in (2, 3, 4, 5):
            for s in range(70):
                fine = s < (1 << n) and 1 <= bin(s).count("1") <= 3
                self.assertEqual(last(("begin", n), ("ifview", s)), [1 if fine else -22], (n, s))
            self.assertEqual(last(("begin", n), ("ifview", LARGEST)), [-22])

    def test_there_is_one_of_just_these(self):
        for s in (3, 6, 5):
            self.assertEqual(last(*with_views(3, [3, 6, 5]), ("ifview", s)), [-17])
        self.assertEqual(last(*with_views(3, [3, 6]), ("unview", 0), ("ifview", 3)), [1])

    def test_however_many_there_are(self):
        six = with_views(4, SIX)
        self.assertEqual(last(*six, ("view", 7)), [-28])
        self.assertEqual(last(*six, ("ifview", 7)), [1])
        self.assertEqual(last(*six, ("ifview", 8)), [0])
        self.assertEqual(last(*six, ("ifview", 6)), [-17])
        for s in (0, 15, 16, LARGEST):
            self.assertEqual(last(*six, ("ifview", s)), [-22])

    def test_it_is_not_put_in(self):
        begun = with_views(4, [3, 6])
        for s in (5, 4, 3, 0, 15, LARGEST):
            self.assertEqual(tables(begun + [("ifview", s)], 3), tables(begun, 3))
            self.assertEqual(run(*begun, ("ifview", s), ("istree",), ("view", 12))[-2:], [[1], [2]])

    def test_it_answers_as_view_then_istree(self):
        source = random.Random(17)
        for turn in range(1000):
            n = source.randint(2, 5)
            sets = some_sets(source, n, 5)
            s = source.randrange(1 << n)
            begun = with_views(n, sets)
            viewed, is_tree = run(*begun, ("view", s), ("istree",))[-2:]
            self.assertEqual(last(*begun, ("ifview", s)), viewed if viewed[0] < 0 else is_tree, (sets, s))


class Without(unittest.TestCase):
    def tells(self, n, sets, *expected):
        self.assertEqual(last(*with_views(n, sets), ("without",)), [len(expected), *expected], sets)

    def test_no_views(self):
        self.tells(2, [])

    def test_one_view(self):
        self.tells(3, [7], 0)

    def test_a_ring(self):
        self.tells(3, [3, 6, 5], 0, 1, 2)
        self.tells(4, [3, 6, 12, 9], 0, 1, 2, 3)
        self.tells(5, [3, 6, 12, 24, 17], 0, 1, 2, 3, 4)

    def test_three_in_a_ring_and_one_of_all_three(self):
        self.tells(3, [3, 6, 5, 7], 0, 1, 2)
        self.tells(3, [3, 7, 6, 5], 0, 2, 3)

    def test_what_hangs_on_a_ring_does_not_help(self):
        self.tells(4, [8, 3, 6, 5], 1, 2, 3)
        self.tells(4, [3, 12, 6, 5], 0, 2, 3)

    def test_two_rings_that_share_a_view(self):
        # Without the view that they share the others are a ring of four.
        self.tells(4, [3, 6, 5, 9, 10])

    def test_some_of_the_core_alone_help(self):
        # Without 7, which holds them together, 3 would be left in a ring with 14 and 13.
        self.tells(4, [3, 6, 12, 7, 14, 13], 4, 5)
        self.tells(5, [7, 28, 3, 25, 6], 1, 3)

    def test_a_view_within_another(self):
        self.tells(2, [1, 3], 0, 1)

    def test_nothing_in_common(self):
        self.tells(5, [3, 4, 24], 0, 1, 2)

    def test_four_of_three_questions_each_of_four(self):
        self.tells(4, [7, 11, 13, 14])

    def test_a_question_in_no_view(self):
        self.tells(4, [3, 6], 0, 1)

    def test_it_takes_none_out(self):
        begun = with_views(3, [3, 6, 5]) + [("table", 1, 0, 1, 2, 3)]
        self.assertEqual(tables(begun + [("without",)], 4), tables(begun, 4))

    def test_it_answers_as_unview_then_istree(self):
        fours = itertools.permutations([3, 6, 5, 7, 12], 4)
        for sets in itertools.chain(fours, itertools.combinations(range(1, 8), 6)):
            begun = with_views(4, sets)
            self.tells(4, sets, *[i for i in range(len(sets)) if last(*begun, ("unview", i), ("istree",)) == [1]])

    def test_against_another_way_to_tell_a_tree(self):
        source = random.Random(18)
        for turn in range(1500):
            n = source.randint(2, 5)
            sets = some_sets(source, n)
            views = [questions_of(s) for s in sets]
            self.tells(n, sets, *[i for i in range(len(sets)) if spans_as_a_tree(views[:i] + views[i + 1:])])
