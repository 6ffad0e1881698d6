import contextlib
import inspect
import io
import unittest

import gluedviews.desk
from calling import EACH_FORM, LARGEST, run, taken_apart, with_views, written
from gluedviews.desk import answers


class NeverChanged(list):
    """A list that fails at once if it's changed, even for a while."""

    def refuse(self, *rest, **named):
        raise AssertionError("what was handed in is changed")

    __setitem__ = __delitem__ = __iadd__ = __imul__ = refuse
    append = clear = extend = insert = pop = remove = reverse = sort = refuse


BUSY = with_views(4, [3, 13]) + [
    ("table", 0, 4, 3, 2, 1), ("table", 1, 1, 2, 3, 4, 5, 6, 7, 8), ("table", 1, 0), ("world", 9), ("world", 16),
    ("viewis", 0), ("viewis", 1), ("viewis", 2), ("tree",), ("istree",), ("core",), ("bound", 1), ("unview", 0),
    ("core",), ("begin", 9), ("begin", 2), ("core",),
]

# Each of the calls 10 to 19, answered and refused.
GLUING = with_views(3, [3, 6]) + [
    ("glue",), ("likely", 5), ("likely", 8), ("told", 5), ("told", 8), ("ifview", 5), ("ifview", 3), ("ifview", 8),
    ("without",), ("ring",), ("trap",), ("off",), ("worlds",), ("holds", *([1] * 8)), ("holds",),
    ("table", 0, 0, 0, 1, 1), ("off",), ("glue",), ("likely", 5), ("told", 5), ("holds", *([1] * 8)), ("worlds",),
    ("view", 5), ("glue",), ("likely", 5), ("told", 5), ("ring",), ("trap",), ("off",), ("worlds",), ("viewis", 0),
    ("viewis", 2), ("without",),
]


class Answers(unittest.TestCase):
    def test_the_interface_as_it_stands(self):
        self.assertIs(gluedviews.desk.answers, answers)
        self.assertEqual(list(inspect.signature(answers).parameters), ["calls"])

    def test_number_by_number(self):
        calls = [0, 1, 3, 0, 1, 1, 5, 0, 3, 5, 0, 1, 2, 3, 4, 0, 3, 1, 0, 0, 4, 1, 0, 0, 1, 1, 6, 0, 6, 0, 0, 7, 0, 0,
                 8, 0, 0, 9, 1, 1, 0, 5, 1, 8, 0, 2, 1, 0, 0]
        self.assertEqual(answers(calls), [1, 0, 1, 0, 1, 0, 1, -22, 5, 5, 1, 2, 3, 4, 1, 1, 3, 1, 0, 1, 1, 1, 2, 1, 1,
                                          1, 4, 1, -22, 1, 1])

    def test_several_calls_in_one_list(self):
        self.assertEqual(run(*BUSY), [
            [0], [0], [1], [0], [0], [-22], [2], [-22],
            [3, 4, 4, 2, 1], [13, 1, 2, 3, 4, 5, 7, 7, 8], [-2], [1, 0, 1], [1], [1, 1], [1], [1],
            [1, 0], [-22], [0], [0],
        ])

    def test_several_calls_of_the_glued_whole_in_one_list(self):
        self.assertEqual(run(*GLUING), [
            [0], [0], [1],
            [8] + [1, 8] * 8, [0, 1, 8], [-22], [4] + [1, 4] * 4, [-22], [0], [-17], [-22],
            [2, 0, 1], [-6], [-6], [-6], [8, 0, 1, 2, 3, 4, 5, 6, 7], [1], [-22],
            [0], [0, 1], [-30], [-30], [-30], [0], [4, 2, 3, 6, 7], [2], [-33],
            [-33], [-33], [3, 0, 1, 2], [3], [-6], [0], [3, 0, 1, 1, 0], [5, 1, 0, 0, 1], [3, 0, 1, 2],
        ])

    def test_number_by_number_from_10_on(self):
        self.assertEqual(answers([0, 1, 2, 0, 15, 0, 0, 16, 0, 0]), [1, 0, 1, -6, 5, 4, 0, 1, 2, 3])
        self.assertEqual(answers([0, 1, 2, 0, 1, 1, 1, 0, 3, 3, 0, 1, 2, 0, 11, 1, 3, 0]),
                         [1, 0, 1, 0, 1, 0, 3, 0, 1, 3])
        self.assertEqual(answers([0, 1, 2, 0, 1, 1, 1, 0, 3, 3, 0, 1, 2, 0, 10, 0, 0, 12, 1, 0, 0, 12, 1, 2, 0]),
                         [1, 0, 1, 0, 1, 0, 9, 4, 1, 6, 1, 3, 1, 6, 1, 3, 3, 1, 1, 1, 5, 2, 1, 2, 1, 2])
        self.assertEqual(answers([0, 1, 3, 0, 1, 1, 3, 0, 1, 1, 5, 0, 17, 1, 6, 0, 1, 1, 6, 0, 13, 0, 0, 14, 0, 0,
                                  18, 0, 0, 10, 0, 0]),
                         [1, 0, 1, 0, 1, 1, 1, 0, 1, 2, 4, 3, 0, 2, 1, 1, 3, 4, 3, 0, 1, 2, 1, -33])
        self.assertEqual(answers([0, 1, 2, 0, 19, 4, 0, 0, 1, 0, 0, 19, 0, 0, 1, 1, 3, 0, 19, 4, 5, 5, 5, 5, 0,
                                  19, 4, 5, 5, 5, 6, 0]),
                         [1, 0, 1, 1, 1, -22, 1, 0, 1, 1, 1, 0])

    def test_one_call(self):
        self.assertEqual(answers([0, 1, 2, 0]), [1, 0])
        self.assertEqual(answers([7, 0, 0]), [1, -11])
        self.assertEqual(answers([3, 1, 0, 0]), [1, -11])
        self.assertEqual(answers([19, 0, 0]), [1, -11])

    def test_sixty_calls(self):
        calls = with_views(2, [3]) + [("world", 2)] * 57 + [("viewis", 0)]
        self.assertEqual(run(*calls), [[0], [0]] + [[1]] * 57 + [[3, 1, 1, 58, 1]])

    def test_the_longest_list(self):
        calls = [("begin", 5)] + [("view", 7)] + [("table", 0, *([LARGEST] * 10))] * 57 + [("viewis", 0)]
        self.assertEqual(run(*calls), [[0], [0]] + [[-22]] * 57 + [[7] + [1] * 8])
        unbegun = [("holds", *([LARGEST] * 34))] * 60
        self.assertEqual(run(*unbegun), [[-11]] * 60)

    def test_the_longest_list_that_is_begun(self):
        calls = with_views(5, [7, 28]) + [("holds", *([LARGEST] * 34))] * 56 + [("holds", *([LARGEST] * 32))]
        self.assertEqual(run(*calls), [[0], [0], [1]] + [[-22]] * 56 + [[1]])

    def test_sixty_calls_that_are_answered_at_length(self):
        calls = with_views(5, [7, 14, 28, 3, 6, 24]) + [("glue",), ("told", 31)] * 26 + [("likely", 31)]
        self.assertEqual(run(*calls)[7:], [[32] + [1, 32] * 32] * 52 + [[0, 1, 32]])

    def test_calls_of_all_twenty_forms_are_read(self):
        self.assertEqual(run(*EACH_FORM[1:], *EACH_FORM[1:]), [[-11]] * 38)
        for row in ([], [0], [1] * 34, [LARGEST] * 34):
            self.assertEqual(run(("holds", *row), ("begin", 2), ("view", 1)), [[-11], [0], [0]])

    def test_a_call_of_whichever_form_leaves_those_behind_it_their_places(self):
        for call in EACH_FORM[6:]:
            each = run(*with_views(2, [3]), call, ("world", 1), ("viewis", 0))
            self.assertEqual(each[3:], [[1], [3, 1, 2, 1, 1]], call)

    def test_what_is_handed_in_stays_as_it_was(self):
        for calls in (BUSY, GLUING, EACH_FORM):
            handed = NeverChanged(written(calls))
            answers(handed)
            self.assertEqual(list(handed), written(calls))

    def test_what_is_given_back_is_new(self):
        for calls in (BUSY, GLUING):
            handed = written(calls)
            first = answers(handed)
            kept = list(first)
            second = answers(handed)
            second.clear()
            self.assertEqual(first, kept)
            self.assertEqual(handed, written(calls))

    def test_the_same_list_twice(self):
        for calls in (BUSY, GLUING):
            handed = written(calls)
            first = answers(handed)
            answers(written(with_views(5, [1, 2, 3, 4, 5, 6])))
            answers(written(with_views(3, [3, 6, 5]) + [("trap",), ("world", 0), ("world", 1)]))
            self.assertEqual(answers(handed), first)

    def test_nothing_is_kept(self):
        answers(written(with_views(5, [1, 2])))
        answers(written(with_views(3, [3, 6, 5]) + [("trap",)]))
        self.assertEqual(run(("core",), ("begin", 2), ("core",)), [[-11], [0], [0]])

    def test_whole_numbers_in_a_list(self):
        for calls in (BUSY, GLUING, with_views(3, [3, 6, 5]) + [("istree",), ("tree",)], EACH_FORM[1:]):
            given = answers(written(calls))
            self.assertIs(type(given), list)
            self.assertEqual({type(number) for number in given}, {int})

    def test_a_refusal_stands_alone_and_nothing_else_is_below_0(self):
        for answer in taken_apart(answers(written(BUSY)) + answers(written(GLUING))):
            self.assertTrue(min(answer) >= 0 or len(answer) == 1, answer)

    def test_it_prints_nothing(self):
        with contextlib.redirect_stdout(io.StringIO()) as out, contextlib.redirect_stderr(io.StringIO()) as err:
            answers(written(BUSY))
            answers(written(GLUING))
        self.assertEqual((out.getvalue(), err.getvalue()), ("", ""))
