import contextlib
import inspect
import io
import unittest

import gluedviews.desk
from calling import EACH_FORM, LARGEST, run, taken_apart, with_views, written
from gluedviews.desk import answers


class NeverChanged(list):
    """A list that fails at once if it's changed, even for a while."""

    def refuse(self, *rest, **named):
        raise AssertionError("what was handed in is changed")

    __setitem__ = __delitem__ = __iadd__ = __imul__ = refuse
    append = clear = extend = insert = pop = remove = reverse = sort = refuse


BUSY = with_views(4, [3, 13]) + [
    ("table", 0, 4, 3, 2, 1), ("table", 1, 1, 2, 3, 4, 5, 6, 7, 8), ("table", 1, 0), ("world", 9), ("world", 16),
    ("viewis", 0), ("viewis", 1), ("viewis", 2), ("tree",), ("istree",), ("core",), ("bound", 1), ("unview", 0),
    ("core",), ("begin", 9), ("begin", 2), ("core",),
]


class Answers(unittest.TestCase):
    def test_the_interface_as_it_stands(self):
        self.assertIs(gluedviews.desk.answers, answers)
        self.assertEqual(list(inspect.signature(answers).parameters), ["calls"])

    def test_number_by_number(self):
        calls = [0, 1, 3, 0, 1, 1, 5, 0, 3, 5, 0, 1, 2, 3, 4, 0, 3, 1, 0, 0, 4, 1, 0, 0, 1, 1, 6, 0, 6, 0, 0, 7, 0, 0,
                 8, 0, 0, 9, 1, 1, 0, 5, 1, 8, 0, 2, 1, 0, 0]
        self.assertEqual(answers(calls), [1, 0, 1, 0, 1, 0, 1, -22, 5, 5, 1, 2, 3, 4, 1, 1, 3, 1, 0, 1, 1, 1, 2, 1, 1,
                                          1, 4, 1, -22, 1, 1])

    def test_several_calls_in_one_list(self):
        self.assertEqual(run(*BUSY), [
            [0], [0], [1], [0], [0], [-22], [2], [-22],
            [3, 4, 4, 2, 1], [13, 1, 2, 3, 4, 5, 7, 7, 8], [-2], [1, 0, 1], [1], [1, 1], [1], [1],
            [1, 0], [-22], [0], [0],
        ])

    def test_one_call(self):
        self.assertEqual(answers([0, 1, 2, 0]), [1, 0])
        self.assertEqual(answers([7, 0, 0]), [1, -11])
        self.assertEqual(answers([3, 1, 0, 0]), [1, -11])
        self.assertEqual(answers([19, 0, 0]), [1, -11])

    def test_sixty_calls(self):
        calls = with_views(2, [3]) + [("world", 2)] * 57 + [("viewis", 0)]
        self.assertEqual(run(*calls), [[0], [0]] + [[1]] * 57 + [[3, 1, 1, 58, 1]])

    def test_the_longest_list(self):
        calls = [("begin", 5)] + [("view", 7)] + [("table", 0, *([LARGEST] * 10))] * 57 + [("viewis", 0)]
        self.assertEqual(run(*calls), [[0], [0]] + [[-22]] * 57 + [[7] + [1] * 8])
        unbegun = [("holds", *([LARGEST] * 34))] * 60
        self.assertEqual(run(*unbegun), [[-11]] * 60)

    def test_calls_of_all_twenty_forms_are_read(self):
        self.assertEqual(run(*EACH_FORM[1:], *EACH_FORM[1:]), [[-11]] * 38)
        for row in ([], [0], [1] * 34, [LARGEST] * 34):
            self.assertEqual(run(("holds", *row), ("begin", 2), ("view", 1)), [[-11], [0], [0]])

    def test_a_call_of_whichever_form_leaves_those_behind_it_their_places(self):
        for call in EACH_FORM[6:]:
            each = run(*with_views(2, [3]), call, ("world", 1), ("viewis", 0))
            self.assertEqual(each[3:], [[1], [3, 1, 2, 1, 1]], call)

    def test_what_is_handed_in_stays_as_it_was(self):
        for calls in (BUSY, EACH_FORM):
            handed = NeverChanged(written(calls))
            answers(handed)
            self.assertEqual(list(handed), written(calls))

    def test_what_is_given_back_is_new(self):
        handed = written(BUSY)
        first = answers(handed)
        kept = list(first)
        second = answers(handed)
        second.clear()
        self.assertEqual(first, kept)
        self.assertEqual(handed, written(BUSY))

    def test_the_same_list_twice(self):
        handed = written(BUSY)
        first = answers(handed)
        answers(written(with_views(5, [1, 2, 3, 4, 5, 6])))
        self.assertEqual(answers(handed), first)

    def test_nothing_is_kept(self):
        answers(written(with_views(5, [1, 2])))
        self.assertEqual(run(("core",), ("begin", 2), ("core",)), [[-11], [0], [0]])

    def test_whole_numbers_in_a_list(self):
        for calls in (BUSY, with_views(3, [3, 6, 5]) + [("istree",), ("tree",)], EACH_FORM[1:]):
            given = answers(written(calls))
            self.assertIs(type(given), list)
            self.assertEqual({type(number) for number in given}, {int})

    def test_a_refusal_stands_alone_and_nothing_else_is_below_0(self):
        for answer in taken_apart(answers(written(BUSY))):
            self.assertTrue(min(answer) >= 0 or len(answer) == 1, answer)

    def test_it_prints_nothing(self):
        with contextlib.redirect_stdout(io.StringIO()) as out, contextlib.redirect_stderr(io.StringIO()) as err:
            answers(written(BUSY))
        self.assertEqual((out.getvalue(), err.getvalue()), ("", ""))
