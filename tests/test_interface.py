"""What the interface says of the list handed in, the list given back, and the eight objects."""

import ast
import contextlib
import io
import pathlib
import sys
import unittest

import nowaiting
from nowaiting.process import answers
from tests.helper import (
    GREATEST_64, NOT_NOW, OK, PUTS, WRONG, ask, begin, do, laid_out, record, shown, taken_apart, wrote,
)

PACKAGE = pathlib.Path(nowaiting.__file__).parent


class NeverChanged(list):
    """A list that tells of every change, one that is undone too."""

    def refuse(self, *given, **named):
        raise AssertionError("the list that was handed in is changed")

    append = extend = insert = pop = remove = clear = sort = reverse = refuse
    __setitem__ = __delitem__ = __iadd__ = __imul__ = refuse


def calls_of(which):
    """Give one object's calls and their answers, other ones for each object."""
    n = 2 + which % 7
    me = which % n
    calls = [begin(which, me, n), record(which), do(which, 4, 0), do(which, which % 4, which, which, GREATEST_64)]
    calls += [record(which), do(which), wrote(which), wrote(which), begin(which, n, n), record(which)]
    own = shown(me, 1, which % 4, which, which, GREATEST_64)
    wanted = [OK, NOT_NOW, WRONG, OK, own, NOT_NOW]
    wanted += [PUTS, NOT_NOW, WRONG, own] if me == 0 else [[16], NOT_NOW, WRONG, NOT_NOW]
    return calls, wanted


def in_turns(rows):
    return [row[at] for at in range(len(rows[0])) for row in rows]


EVERY_CALL = laid_out(in_turns([calls_of(which)[0] for which in range(8)]))


class OneByOne(unittest.TestCase):
    def assert_each_equal(self, given, wanted):
        """Compare answer by answer: unittest takes very long to tell long lists apart."""
        self.assertEqual(len(given), len(wanted))
        for at in range(len(wanted)):
            self.assertEqual(given[at], wanted[at], "answer %d" % at)


class Answers(OneByOne):
    def test_each_answer_has_its_length_before_it(self):
        calls = [0, 0, 0, 2, 1, 0, 1, 2, 3, 4, 2, 0, 3, 0, 3, 0, 0, 0, 2, 2]
        own = [1, 0, 0, 0, 0, 0, 0, 0] + [1, 0, 0, 0, 0, 0, 0, 0] + [18, 0, 0, 0, 0, 0, 0, 0]
        own += [3, 0, 0, 0, 0, 0, 0, 0] + [4, 0, 0, 0, 0, 0, 0, 0]
        self.assertEqual(answers(calls), [1, 0, 1, 0, 41, 0] + own + [1, 64, 1, -4, 1, -2])

    def test_it_gives_back_a_list_of_whole_numbers(self):
        given = answers(EVERY_CALL)
        self.assertIs(type(given), list)
        self.assertEqual({type(number) for number in given}, {int})

    def test_400_calls(self):
        calls = [begin(0, 0, 2), do(0, 1, 2, 3, 4)] + [record(0)] * 398
        self.assert_each_equal(ask(*calls), [OK, OK] + [shown(0, 1, 1, 2, 3, 4)] * 398)


class Objects(OneByOne):
    def test_each_alone(self):
        for which in range(8):
            with self.subTest(which=which):
                calls, wanted = calls_of(which)
                self.assertEqual(ask(*calls), wanted)

    def test_mixed_each_is_as_if_alone(self):
        wanted = in_turns([calls_of(which)[1] for which in range(8)])
        self.assert_each_equal(taken_apart(answers(EVERY_CALL)), wanted)

    def test_mixed_the_other_way_round(self):
        backwards = range(7, -1, -1)
        calls = in_turns([calls_of(which)[0] for which in backwards])
        wanted = in_turns([calls_of(which)[1] for which in backwards])
        self.assert_each_equal(ask(*calls), wanted)

    def test_one_begun_anew_leaves_another(self):
        calls = [begin(0, 0, 2), begin(7, 1, 2), do(0, 1, 2, 3, 4), do(7, 2, 3, 4, 5), begin(7, 0, 8)]
        calls += [record(0), record(7), wrote(0), do(7, 0, 1), wrote(7)]
        wanted = [OK] * 5 + [shown(0, 1, 1, 2, 3, 4), NOT_NOW, PUTS, OK, PUTS]
        self.assertEqual(ask(*calls), wanted)


class LeftAsItWas(OneByOne):
    def test_the_list_is_the_same_afterwards(self):
        calls = list(EVERY_CALL)
        answers(calls)
        self.assertEqual(calls, EVERY_CALL)

    def test_the_list_is_not_changed_for_a_while_either(self):
        given = taken_apart(answers(NeverChanged(EVERY_CALL)))
        self.assert_each_equal(given, taken_apart(answers(list(EVERY_CALL))))

    def test_a_second_time_gives_the_same(self):
        calls = list(EVERY_CALL)
        first = answers(calls)
        kept = list(first)
        first.clear()
        self.assert_each_equal(taken_apart(answers(calls)), taken_apart(kept))

    def test_nothing_is_kept_from_one_time_to_the_next(self):
        answers(laid_out([begin(0, 0, 2), do(0)]))
        self.assertEqual(ask(begin(0, 0, 9), begin(0, 0, 2), record(0)), [WRONG, OK, NOT_NOW])
        answers(laid_out([begin(0, 0, 2), do(0)]))
        with self.assertRaises(Exception):
            answers(record(0))

    def test_nothing_is_printed_read_or_imported(self):
        before = set(sys.modules)
        printed = io.StringIO()
        stdin = sys.stdin
        # Any reading of it fails, since None has no such method.
        sys.stdin = None
        try:
            with contextlib.redirect_stdout(printed), contextlib.redirect_stderr(printed):
                answers(EVERY_CALL)
        finally:
            sys.stdin = stdin
        self.assertEqual(printed.getvalue(), "")
        self.assertEqual(set(sys.modules), before)

    def test_the_package_draws_from_its_own_files_alone(self):
        for path in sorted(PACKAGE.glob("**/*.py")):
            for node in ast.walk(ast.parse(path.read_text(encoding="utf-8"))):
                with self.subTest(path=path.name):
                    self.assertNotIsInstance(node, ast.Import)
                    if isinstance(node, ast.ImportFrom):
                        self.assertEqual(node.module.split(".")[0], "nowaiting")


if __name__ == "__main__":
    unittest.main()
