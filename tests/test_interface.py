"""How calls are handed in and answers given back, and what the whole program promises."""

import ast
import builtins
import pathlib
import sys
import unittest

from tests.helper import (
    ANEW, MOST_NUMBER, ON, PRICE, STILL, WHERE, any_product, ask, begins, border, late, out, stop, told_product,
    trip, walk, written,
)
from travelday.desk import answers

DAY = (
    begins(2, 0), border(0, 1), any_product(2, 90), told_product([0, 1], 80), stop(3, 0), stop(4, 1), stop(0, 1),
    trip(127, (0, 10, 11), (1, 20, 21)), trip(127, (1, 30, 31), (2, 40, 41)), walk(1, 2, 50),
    out(0, 2, 5), ON, STILL, late(1, 0, 9), STILL, ANEW, PRICE, WHERE, ON, WHERE,
)

WRONG = (
    begins(9, 0), begins(1, 7), border(2, 0), border(1, 1), border(1, 0), any_product(0), told_product([]),
    told_product([0, 2]), any_product(1, 1000001), any_product(1, 1, 0), any_product(1, 1, 1, 0),
    any_product(1, 1, 1, 1, 2, 2), stop(121, 0), stop(0, 2), trip(0, (0, 1, 1), (1, 2, 2)), trip(1, (0, 1, 1)),
    trip(1, (0, 1, 1), (3, 2, 2)), trip(1, (0, 2, 2), (1, 1, 1)), walk(3, 0, 0), walk(0, 0, 241), late(2, 0, 0),
    late(0, 64, 0), late(0, 0, 241), out(3, 0, 0), out(0, 3, 0), out(0, 1, 2880), out(2, 0, 0),
)


class Writing(unittest.TestCase):

    def test_the_whole_row(self):
        self.assertEqual(
            answers([0, 3, 0, 1, 0, 0, 3, 3, 5, 0, 0, 3, 3, 0, 0, 0, 9, 4, 127, 2, 0, 10, 10, 1, 20, 20,
                     0, 4, 7, 0, 1, 4, 0, 1, 12, 0, 1, 8, 0, 1, 8, 0, 1, 9]),
            [1, 0, 1, 0, 1, 1, 1, 0, 10, 0, 2, 20, 1, 5, 0, 0, 0, 1, 20, 8, 0, 3, 0, 4, 0, 2, 0, 1,
             4, 0, 2, 1, 20, 1, -3, 3, 0, 1, 20])

    def test_a_day_of_all_calls(self):
        self.assertEqual(ask(*DAY), [
            [0], [0], [0], [1], [0], [1], [2], [0], [1], [0],
            [0, 2, 40, 2, 5, 0, 0, 0, 1, 20, 5, 1, 0, 0, 1, 40],
            [0, 2, 1, 20], [0, 1, 40], [0], [0, 1, 49],
            [0, 2, 49, 1, 5, 1, 0, 0, 1, 49],
            [80, 1, 1, 3, 1, 0, 1],
            [0, 3, 1, 20, 1, 2, 1, 1], [0, 2, 2, 49], [0, 3, 2, 49, 1, 2, 2, 0]])

    def test_a_row_of_any_calls_first(self):
        for call in (border(0, 0), any_product(1), stop(0, 0), walk(0, 0, 0), out(0, 0, 0), ON, STILL, PRICE, WHERE):
            self.assertEqual(len(ask(call)), 1)

    def test_sixty_calls(self):
        self.assertEqual(ask(*[any_product(MOST_NUMBER)] * 60), [[-1]] * 60)

    def test_only_whole_numbers_are_given_back(self):
        answered = answers(written(DAY + WRONG))
        self.assertIs(type(answered), list)
        self.assertEqual({type(number) for number in answered}, {int})


class Keeping(unittest.TestCase):

    def test_what_is_handed_in_is_not_changed(self):
        row = written(DAY + WRONG)
        copy = list(row)
        answers(row)
        self.assertEqual(row, copy)

    def test_not_for_a_while_either(self):
        class Watched(list):
            def changed(self, *args):
                raise AssertionError("what was handed in was changed")

            __setitem__ = __delitem__ = __iadd__ = append = extend = insert = pop = remove = reverse = sort = changed
            clear = changed

        self.assertEqual(answers(Watched(written(DAY + WRONG))), answers(written(DAY + WRONG)))

    def test_the_second_time_is_as_the_first(self):
        first = answers(written(DAY))
        self.assertEqual(answers(written([WHERE, stop(0, 0), border(0, 1)])), [1, -4, 1, -2, 1, -2])
        self.assertEqual(answers(written(DAY)), first)

    def test_what_is_given_back_is_ones_own(self):
        first = answers(written(DAY))
        copy = list(first)
        first.clear()
        self.assertEqual(answers(written(DAY)), copy)

    def test_every_refusal_leaves_all_as_it_was(self):
        for at in range(11, len(DAY) + 1):
            before = DAY[:at]
            after = (STILL, PRICE, WHERE, any_product(1), stop(0, 0), trip(1, (0, 1, 1), (1, 2, 2)), walk(0, 0, 0),
                     ANEW, ON, WHERE)
            plain = ask(*before, *after)
            disturbed = ask(*before, *WRONG, *after)
            refused = disturbed[at:at + len(WRONG)]
            self.assertTrue(all(len(answer) == 1 and answer[0] < 0 for answer in refused), refused)
            self.assertEqual(disturbed[at + len(WRONG):], plain[at:])


class Quiet(unittest.TestCase):

    def test_nothing_from_outside_is_drawn_in(self):
        folder = pathlib.Path(__file__).resolve().parent.parent / "travelday"
        for path in sorted(folder.glob("*.py")):
            for node in ast.walk(ast.parse(path.read_text())):
                self.assertNotIsInstance(node, ast.Import, path)
                if isinstance(node, ast.ImportFrom):
                    self.assertEqual(node.module.split(".")[0], "travelday", path)

    def test_nothing_is_printed_read_or_imported_by_a_call(self):
        def forbidden(*args, **kwargs):
            raise AssertionError("not asked for")

        kept = {name: getattr(builtins, name) for name in ("print", "open", "input", "__import__")}
        row = written(DAY)
        try:
            for name in kept:
                setattr(builtins, name, forbidden)
            answered = answers(row)
        finally:
            for name, value in kept.items():
                setattr(builtins, name, value)
        self.assertEqual(answered, answers(row))

    def test_no_deep_calls_within_one_another(self):
        frame = sys._getframe()
        depth = 0
        while frame is not None:
            depth += 1
            frame = frame.f_back
        limit = sys.getrecursionlimit()
        sys.setrecursionlimit(depth + 30)
        try:
            answered = answers(written(DAY))
        finally:
            sys.setrecursionlimit(limit)
        self.assertEqual(answered, answers(written(DAY)))


if __name__ == "__main__":
    unittest.main()
