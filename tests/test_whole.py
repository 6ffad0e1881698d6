import itertools
import math
import random
import unittest
from fractions import Fraction

from calling import (LARGEST, fractions_in, last, row_of, run, seen_of, some_agreeing, some_sets,
                     some_tree, tables, with_tables, with_views)


class Off(unittest.TestCase):
    def test_all_agree(self):
        self.assertEqual(last(("begin", 2), ("off",)), [-6])
        self.assertEqual(last(*with_tables(3, [7], [[1, 2, 3, 4, 5, 6, 7, 8]]), ("off",)), [-6])
        self.assertEqual(last(*with_views(5, [7, 28, 3, 17, 1, 10]), ("off",)), [-6])

    def test_nothing_in_common(self):
        self.assertEqual(last(*with_tables(5, [3, 4, 24], [[1, 2, 3, 4], [7, 0], [0, 0, 0, 5]]), ("off",)), [-6])

    def test_it_is_how_likely_that_counts(self):
        self.assertEqual(last(*with_tables(2, [1, 3], [[1, 2], [10, 40, 20, 20]]), ("off",)), [-6])
        self.assertEqual(last(*with_tables(2, [1, 3], [[1, 2], [10, 39, 20, 20]]), ("off",)), [0, 1])
        # As often as in the other one, but among fewer.
        self.assertEqual(last(*with_tables(2, [1, 3], [[1, 2], [1, 1, 1, 1]]), ("off",)), [0, 1])

    def test_two_questions_in_common(self):
        same = [1, 2, 3, 4]
        begun = with_tables(4, [7, 14], [[1, 0, 1, 1, 1, 2, 3, 1], same + [0, 0, 0, 0]])
        self.assertEqual(last(*begun, ("off",)), [-6])
        # Each of the two questions is as likely in both, but not the two together.
        begun = with_tables(4, [7, 14], [[1, 0, 0, 0, 0, 0, 0, 1], [0, 1, 1, 0, 0, 0, 0, 0]])
        self.assertEqual(last(*begun, ("off",)), [0, 1])

    def test_the_first_two_that_do_not(self):
        alike = with_tables(3, [1, 3, 5, 7], [[1, 1], [1, 1, 1, 1], [1, 1, 1, 1], [1] * 8])
        for i, row, expected in ((0, [1, 2], [0, 1]), (1, [1, 2, 1, 2], [0, 1]), (2, [1, 2, 1, 2], [0, 2]),
                                 (3, [1, 2] * 4, [0, 3]), (1, [1, 1, 2, 2], [1, 3]), (2, [1, 1, 2, 2], [2, 3])):
            self.assertEqual(last(*alike, ("table", i, *row), ("off",)), expected)

    def test_by_the_first_then_by_the_second(self):
        # 0 and 3 don't agree, nor do 1 and 2.
        begun = with_tables(4, [1, 2, 6, 9], [[1, 1], [1, 1], [1, 2, 1, 2], [1, 2, 1, 2]])
        self.assertEqual(last(*begun, ("off",)), [0, 3])

    def test_not_a_tree(self):
        begun = with_views(3, [3, 6, 5])
        self.assertEqual(last(*begun, ("off",)), [-6])
        self.assertEqual(last(*begun, ("table", 2, 1, 1, 2, 2), ("off",)), [1, 2])

    def test_against_the_words(self):
        source = random.Random(15)
        for turn in range(1500):
            n = source.randint(2, 5)
            sets = some_sets(source, n)
            rows = some_agreeing(source, n, sets, 6)
            if sets and turn % 3:
                i = source.randrange(len(sets))
                rows[i][source.randrange(len(rows[i]))] = source.randint(1, 6)
            wide = [[Fraction(row[row_of(s, x)], sum(row) * 2 ** (n - bin(s).count("1"))) for x in range(1 << n)]
                    for s, row in zip(sets, rows)]
            apart = [[i, j] for i, j in itertools.combinations(range(len(sets)), 2)
                     if seen_of(wide[i], sets[i] & sets[j]) != seen_of(wide[j], sets[i] & sets[j])]
            begun = with_tables(n, sets, rows)
            self.assertEqual(last(*begun, ("off",)), apart[0] if apart else [-6], begun)


class Worlds(unittest.TestCase):
    def test_no_views(self):
        for n in (2, 3, 4, 5):
            self.assertEqual(last(("begin", n), ("worlds",)), [1 << n, *range(1 << n)])

    def test_one_view(self):
        self.assertEqual(last(*with_tables(2, [3], [[0, 2, 0, 100]]), ("worlds",)), [2, 1, 3])
        self.assertEqual(last(*with_tables(3, [2], [[0, 1]]), ("worlds",)), [4, 2, 3, 6, 7])

    def test_new_views_have_seen_all(self):
        self.assertEqual(last(*with_views(3, [1, 3, 6, 5, 7]), ("worlds",)), [8, *range(8)])

    def test_a_world_must_fit_all(self):
        begun = with_tables(3, [3, 6], [[1, 2, 3, 0], [0, 1, 1, 1]])
        self.assertEqual(last(*begun, ("worlds",)), [4, 2, 4, 5, 6])

    def test_views_that_do_not_agree(self):
        self.assertEqual(last(*with_tables(2, [1, 3], [[0, 1], [1, 0, 1, 0]]), ("worlds",)), [0])

    def test_a_world_that_was_seen_fits(self):
        begun = with_tables(3, [3, 6, 5], [[0, 1, 1, 0], [1, 0, 0, 1], [1, 0, 0, 1]])
        self.assertEqual(run(*begun, ("worlds",), ("world", 5), ("worlds",))[-3:], [[0], [3], [1, 5]])

    def test_against_the_words(self):
        source = random.Random(16)
        for turn in range(600):
            n = source.randint(2, 5)
            sets = some_sets(source, n)
            rows = [[source.choice((0, 0, 1, 5)) for row in range(2 ** bin(s).count("1"))] for s in sets]
            for row in rows:
                row[source.randrange(len(row))] = 2
            fitting = [x for x in range(1 << n) if all(row[row_of(s, x)] for s, row in zip(sets, rows))]
            self.assertEqual(last(*with_tables(n, sets, rows), ("worlds",)), [len(fitting), *fitting])


class Holds(unittest.TestCase):
    def test_one_view(self):
        begun = with_tables(2, [3], [[1, 2, 3, 4]])
        self.assertEqual(last(*begun, ("holds", 1, 2, 3, 4)), [1])
        self.assertEqual(last(*begun, ("holds", 10, 20, 30, 40)), [1])
        self.assertEqual(last(*begun, ("holds", 1, 2, 3, 5)), [0])
        self.assertEqual(last(*begun, ("holds", 4, 3, 2, 1)), [0])

    def test_worlds_that_show_a_row_are_added(self):
        begun = with_tables(3, [2], [[1, 3]])
        self.assertEqual(last(*begun, ("holds", 1, 0, 2, 1, 0, 1, 3, 0)), [1])
        self.assertEqual(last(*begun, ("holds", 0, 0, 2, 1, 0, 1, 3, 0)), [0])

    def test_all_views_count(self):
        begun = with_tables(3, [3, 6, 5], [[2, 0, 0, 2], [2, 0, 0, 2], [2, 0, 0, 2]])
        whole = ("holds", 1, 0, 0, 0, 0, 0, 0, 1)
        self.assertEqual(last(*begun, whole), [1])
        for i in range(3):
            self.assertEqual(last(*begun, ("table", i, 2, 0, 0, 1), whole), [0])

    def test_no_views(self):
        for n in (2, 3, 4, 5):
            self.assertEqual(last(("begin", n), ("holds", *range(1 << n))), [1])

    def test_the_row_has_not_a_number_for_each_world(self):
        for n in (2, 3, 4, 5):
            for sets in ([], [1], [3]):
                for length in range(35):
                    expected = 1 if length == 1 << n else -22
                    self.assertEqual(last(*with_views(n, sets), ("holds", *([1] * length))), [expected])

    def test_all_are_0(self):
        for n in (2, 3, 4, 5):
            for sets in ([], [1]):
                self.assertEqual(last(*with_views(n, sets), ("holds", *([0] * (1 << n)))), [-22])
        for length in (1, 33, 34):
            self.assertEqual(last(("begin", 5), ("holds", *([0] * length))), [-22])

    def test_one_that_is_not_0_is_enough(self):
        for x in range(32):
            row = [int(y == x) for y in range(32)]
            self.assertEqual(last(("begin", 5), ("holds", *row)), [1])
            self.assertEqual(last(*with_views(5, [1]), ("holds", *row)), [0])

    def test_the_greatest_numbers(self):
        begun = with_views(5, [7, 28])
        self.assertEqual(last(*begun, ("holds", *([LARGEST] * 32))), [1])
        self.assertEqual(last(*begun, ("holds", *([LARGEST] * 31), LARGEST - 1)), [0])
        self.assertEqual(last(*begun, ("holds", *([LARGEST] * 34))), [-22])
        begun = with_tables(2, [1], [[1, 2]])
        self.assertEqual(last(*begun, ("holds", LARGEST // 3, LARGEST, 2 * (LARGEST // 3), LARGEST)), [1])
        self.assertEqual(last(*begun, ("holds", LARGEST // 3, LARGEST, 2 * (LARGEST // 3) - 1, LARGEST)), [0])

    def test_the_whole_of_which_the_tables_come(self):
        source = random.Random(19)
        for turn in range(500):
            n = source.randint(2, 5)
            sets = some_sets(source, n)
            counts = [0] * (1 << n)
            for seen in range(source.randint(1, 30)):
                counts[source.randrange(1 << n)] += 1
            rows = [seen_of(counts, s) for s in sets]
            begun = with_tables(n, sets, rows)
            self.assertEqual(last(*begun, ("holds", *[1000003 * count for count in counts])), [1])
            counts[source.randrange(1 << n)] += 1
            has = all(self.share(seen_of(counts, s)) == self.share(row) for s, row in zip(sets, rows))
            self.assertEqual(last(*begun, ("holds", *counts)), [int(has)])

    def share(self, row):
        return [Fraction(number, sum(row)) for number in row]


class WhatHolds(unittest.TestCase):
    def test_what_is_glued_has_all_tables(self):
        source = random.Random(7)
        tried = 0
        for turn in range(500):
            n = source.randint(2, 5)
            sets = some_tree(source, n)
            begun = with_tables(n, sets, some_agreeing(source, n, sets, 12))
            whole = fractions_in(last(*begun, ("glue",))[1:])
            below = math.lcm(*[each.denominator for each in whole])
            numbers = [int(each * below) for each in whole]
            if max(numbers) <= LARGEST:
                tried += 1
                self.assertEqual(last(*begun, ("holds", *numbers)), [1], begun)
        self.assertGreater(tried, 400)

    def test_tables_that_agree_in_twos_and_come_of_no_whole(self):
        # Of each three questions an odd number is answered 1: but world 15 alone fits, and shows one row of each.
        sets = [7, 11, 13, 14]
        odd = [bin(row).count("1") % 2 for row in range(8)]
        begun = with_tables(4, sets, [odd] * 4)
        self.assertEqual(run(*begun, ("off",), ("worlds",))[-2:], [[-6], [1, 15]])
        self.assertEqual(last(*begun, ("holds", *([0] * 15), 1)), [0])

    def test_a_ring_of_three_with_tables_of_one_whole(self):
        begun = with_tables(3, [3, 6, 5], [[1, 0, 0, 1]] * 3)
        self.assertEqual(run(*begun, ("off",), ("worlds",), ("glue",))[-3:], [[-6], [2, 0, 7], [-33]])


class Corners(unittest.TestCase):
    def tells(self, begun, off, worlds, uniform):
        n = begun[0][1]
        each = run(*begun, ("off",), ("worlds",), ("holds", *([1] * (1 << n))))
        self.assertEqual(each[len(begun):], [off, worlds, [uniform]])

    def test_no_views(self):
        self.tells([("begin", 2)], [-6], [4, 0, 1, 2, 3], 1)

    def test_one_view(self):
        self.tells(with_tables(2, [3], [[1, 0, 0, 0]]), [-6], [1, 0], 0)

    def test_three_in_a_ring_and_one_of_all_three(self):
        self.tells(with_views(3, [3, 6, 5, 7]), [-6], [8, *range(8)], 1)
        self.tells(with_views(3, [3, 6, 5]) + [("trap",), ("view", 7)], [0, 3], [0], 0)

    def test_a_view_within_another(self):
        self.tells(with_tables(2, [3, 1], [[1, 1, 1, 1], [2, 2]]), [-6], [4, 0, 1, 2, 3], 1)
        self.tells(with_tables(2, [3, 1], [[1, 1, 1, 1], [0, 2]]), [0, 1], [2, 1, 3], 0)

    def test_nothing_in_common(self):
        self.tells(with_tables(2, [1, 2], [[0, 1], [1, 1]]), [-6], [2, 1, 3], 0)

    def test_a_row_that_is_never_seen_in_what_two_have_in_common(self):
        self.tells(with_tables(3, [3, 6], [[1, 2, 0, 0], [1, 0, 2, 0]]), [-6], [4, 0, 1, 4, 5], 0)

    def test_four_of_three_questions_each_of_four(self):
        self.tells(with_views(4, [7, 11, 13, 14]), [-6], [16, *range(16)], 1)

    def test_a_question_in_no_view(self):
        self.tells(with_tables(3, [3], [[1, 0, 0, 1]]), [-6], [4, 0, 3, 4, 7], 0)

    def test_a_ring_of_five(self):
        self.tells(with_views(5, [3, 6, 12, 24, 17]), [-6], [32, *range(32)], 1)
        self.tells(with_views(5, [3, 6, 12, 24, 17]) + [("trap",)], [-6], [0], 0)


class TheyChangeNothing(unittest.TestCase):
    def test_answered_or_refused(self):
        for sets in ([3, 6, 5], [3, 6, 12]):
            begun = with_views(4, sets) + [("table", 1, 0, 1, 2, 3)]
            before = tables(begun, 4)
            for call in (("off",), ("worlds",), ("ring",), ("holds",), ("holds", *([0] * 16)), ("holds", *([1] * 16)),
                         ("holds", *([LARGEST] * 34))):
                self.assertEqual(tables(begun + [call], 4), before)
