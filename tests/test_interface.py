"""What holds of every call: its arguments, the kind of its answer, and that it leaves no trace."""

import contextlib
import inspect
import io
import itertools
import sys
import unittest

from helper import EVERYDAY, as_bytes, assert_same, drawing_text, greatest_text, picture_text
from pensheets import drawings

ARGUMENTS = {
    "judge": ["t"], "sizes": ["t"], "name": ["k", "t"], "stroke": ["i", "t"], "place": ["i", "k", "t"],
    "fill": ["i", "t"], "inked": ["t"], "check": ["t"], "painted": ["t"], "region": ["i", "t"],
    "way": ["i", "t"], "straight": ["x", "y", "u", "v"],
}
NUMBERS = (0, 1, 2, 3, 10 ** 60)
STRAIGHTS = [(0, 0, 0, 0), (-1, -2, 3, 4), (-999, 999, 999, -998), (1000, 0, 0, 0), (0, 0, 0, -10 ** 60)]
TEXTS = ["", "drawing a 1 1\n", EVERYDAY, EVERYDAY[:-1], EVERYDAY + "x", " " * 65537,
         picture_text("##### #0#1# #####"), picture_text("##### #0.1# #####")]
GREAT = [greatest_text(), drawing_text(256, 256, [(1, 0, [(0, 0), (255, 0), (255, 255), (0, 255), (0, 0)])],
                                       [(2, 9, 9), (3, 10, 9)])]


def calls(t):
    """Each call as a function's name and its arguments."""
    for name, arguments in ARGUMENTS.items():
        if "t" in arguments:
            for numbers in itertools.product(NUMBERS, repeat=len(arguments) - 1):
                yield name, [*numbers, t]
    for numbers in STRAIGHTS:
        yield "straight", list(numbers)


def answers(t):
    return [getattr(drawings, name)(*arguments) for name, arguments in calls(t)]


class Interface(unittest.TestCase):

    def test_names_and_arguments(self):
        for name, arguments in ARGUMENTS.items():
            function = getattr(drawings, name)
            self.assertEqual(list(inspect.signature(function).parameters), arguments)

    def test_kinds(self):
        for text in TEXTS:
            for answer in answers(as_bytes(text)):
                self.assertIs(type(answer), list)
                self.assertGreater(len(answer), 0)
                self.assertEqual({type(number) for number in answer}, {int})

    def test_handed_in_is_as_it_was(self):
        for text in TEXTS:
            t = as_bytes(text)
            answers(t)
            self.assertEqual(t, as_bytes(text))

    def test_handed_in_is_never_changed_for_a_while(self):
        class Watched(list):
            def refuse(self, *arguments):
                raise AssertionError("what was handed in was changed")
            append = extend = insert = pop = remove = clear = sort = reverse = refuse
            __setitem__ = __delitem__ = __iadd__ = __imul__ = refuse
        for text in TEXTS:
            self.assertEqual(answers(Watched(as_bytes(text))), answers(as_bytes(text)))

    def test_nothing_is_kept(self):
        first = [answers(as_bytes(text)) for text in TEXTS]
        again = [answers(as_bytes(text)) for text in reversed(TEXTS)]
        self.assertEqual(list(reversed(again)), first)

    def test_an_answer_is_the_callers_own(self):
        for name, arguments in calls(as_bytes(EVERYDAY)):
            function = getattr(drawings, name)
            answer = function(*arguments)
            copy = list(answer)
            answer.append(99)
            self.assertEqual(function(*arguments), copy)

    def test_nothing_is_printed_or_imported(self):
        before = set(sys.modules)
        printed = io.StringIO()
        with contextlib.redirect_stdout(printed), contextlib.redirect_stderr(printed):
            for text in TEXTS:
                answers(as_bytes(text))
        self.assertEqual(printed.getvalue(), "")
        self.assertEqual(set(sys.modules), before)

    def test_long_texts_are_gone_through_by_loops(self):
        limit = sys.getrecursionlimit()
        sys.setrecursionlimit(len(inspect.stack()) + 40)
        try:
            found = [answers(as_bytes(text)) for text in GREAT]
        finally:
            sys.setrecursionlimit(limit)
        assert_same(self, found, [answers(as_bytes(text)) for text in GREAT])


if __name__ == "__main__":
    unittest.main()
