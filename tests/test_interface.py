"""What the interface says of the list handed in, the list given back, and the eight objects."""

import ast
import contextlib
import io
import pathlib
import sys
import unittest

import nowaiting
from nowaiting.process import answers
from tests.helper import (
    ADD, ANSWERED, GREATEST_64, NOBODYS, NOT_NOW, OK, PUTS, WRONG, OneByOne,
    answer, ask, begin, do, got, laid_out, look, place, record, shown, taken_apart, value, wrote,
)

PACKAGE = pathlib.Path(nowaiting.__file__).parent


class NeverChanged(list):
    """A list that tells of every change, one that is undone too."""

    def refuse(self, *given, **named):
        raise AssertionError("the list that was handed in is changed")

    append = extend = insert = pop = remove = clear = sort = reverse = refuse
    __setitem__ = __delitem__ = __iadd__ = __imul__ = refuse


def calls_of(which):
    """Give one object's calls and their answers, other ones for each object."""
    n = 2 + which % 7
    me = which % n
    calls = [begin(which, me, n), record(which), do(which, 4, 0), do(which, which % 4, which, which, GREATEST_64)]
    calls += [record(which), do(which), wrote(which), wrote(which), begin(which, n, n), record(which)]
    own = shown(me, 1, which % 4, which, which, GREATEST_64)
    wanted = [OK, NOT_NOW, WRONG, OK, own, NOT_NOW]
    wanted += [PUTS, NOT_NOW, WRONG, own] if me == 0 else [[16], NOT_NOW, WRONG, NOT_NOW]
    # Read, write, add, swap: the sixteen values are 0 still, so that a write or an add alone changes one.
    answered = which if which % 4 == 2 else 0
    left = which if which % 4 in (1, 2) else 0
    calls += [record(which) if me == 0 else got(which, NOBODYS), place(which), answer(which)]
    calls += [got(which, (me + 1, 1, 16 * (which % 4) + which, which, GREATEST_64)), answer(which)]
    calls += [place(which), value(which, which), value(which, 16), got(which, NOBODYS)]
    wanted += [own if me == 0 else PUTS, [0], NOT_NOW, ANSWERED, [0, answered], [1], [0, left], WRONG, NOT_NOW]
    calls += [do(which, ADD, which, 100), wrote(which), record(which) if me == 1 else got(which, NOBODYS)]
    calls += [got(which, (me + 1, 2, 16 * ADD + which, 100 + which, 0)), answer(which), place(which)]
    wanted += [OK] + ([PUTS, shown(me, 2, ADD, which, 100, 0)] if me == 1 else [[17], PUTS])
    wanted += [ANSWERED, [0, left + 100 + which], [2]]
    calls += [value(which, key) for key in range(16)]
    wanted += [[0, left + 100 + which if key == which else 0] for key in range(16)]
    return calls, wanted


def in_turns(rows):
    return [row[at] for at in range(len(rows[0])) for row in rows]


EVERY_CALL = laid_out(in_turns([calls_of(which)[0] for which in range(8)]))


class Answers(OneByOne):
    def test_each_answer_has_its_length_before_it(self):
        calls = [0, 0, 0, 2, 1, 0, 1, 2, 3, 4, 2, 0, 3, 0, 3, 0, 0, 0, 2, 2]
        own = [1, 0, 0, 0, 0, 0, 0, 0] + [1, 0, 0, 0, 0, 0, 0, 0] + [18, 0, 0, 0, 0, 0, 0, 0]
        own += [3, 0, 0, 0, 0, 0, 0, 0] + [4, 0, 0, 0, 0, 0, 0, 0]
        self.assertEqual(answers(calls), [1, 0, 1, 0, 41, 0] + own + [1, 64, 1, -4, 1, -2])

    def test_each_answer_of_the_later_calls_has_its_length_before_it(self):
        own = [1, 0, 0, 0, 0, 0, 0, 0] + [1, 0, 0, 0, 0, 0, 0, 0] + [18, 0, 0, 0, 0, 0, 0, 0]
        own += [3, 0, 0, 0, 0, 0, 0, 0] + [4, 0, 0, 0, 0, 0, 0, 0]
        calls = [0, 0, 0, 2, 4, 0, 40] + own + [5, 0, 6, 0, 7, 0, 16, 1, 0, 1, 2, 3, 4, 3, 0]
        calls += [4, 0, 40] + own + [6, 0, 7, 0, 2, 7, 0, 3, 5, 0]
        wanted = [1, 0, 1, -4, 1, 0, 1, -4, 1, -2, 1, 0, 1, 64, 1, 32, 2, 0, 0, 2, 0, 3, 2, 0, 0, 1, 1]
        self.assertEqual(answers(calls), wanted)

    def test_it_gives_back_a_list_of_whole_numbers(self):
        given = answers(EVERY_CALL)
        self.assertIs(type(given), list)
        self.assertEqual({type(number) for number in given}, {int})

    def test_400_calls(self):
        calls = [begin(0, 0, 2), do(0, 1, 2, 3, 4)] + [record(0)] * 398
        self.assert_each_equal(ask(*calls), [OK, OK] + [shown(0, 1, 1, 2, 3, 4)] * 398)

    def test_16000_numbers(self):
        """2 processes, 371 records handed in, and what is left of the 16000 filled with uo_do and uo_value."""
        calls = [begin(0, 0, 2), do(0), wrote(0)] + [got(0, NOBODYS)] * 371 + [do(0)] * 5 + [value(0, 3)]
        calls += [place(0)]
        self.assertEqual(len(laid_out(calls)), 16000)
        wanted = [OK, OK] + [PUTS, [17], PUTS] * 124 + [NOT_NOW] * 5 + [[0, 0], [247]]
        self.assert_each_equal(ask(*calls), wanted)


class Objects(OneByOne):
    def test_each_alone(self):
        for which in range(8):
            with self.subTest(which=which):
                calls, wanted = calls_of(which)
                self.assertEqual(ask(*calls), wanted)

    def test_mixed_each_is_as_if_alone(self):
        wanted = in_turns([calls_of(which)[1] for which in range(8)])
        self.assert_each_equal(taken_apart(answers(EVERY_CALL)), wanted)

    def test_mixed_the_other_way_round(self):
        backwards = range(7, -1, -1)
        calls = in_turns([calls_of(which)[0] for which in backwards])
        wanted = in_turns([calls_of(which)[1] for which in backwards])
        self.assert_each_equal(ask(*calls), wanted)

    def test_one_begun_anew_leaves_another(self):
        calls = [begin(0, 0, 2), begin(7, 1, 2), do(0, 1, 2, 3, 4), do(7, 2, 3, 4, 5), begin(7, 0, 8)]
        calls += [record(0), record(7), wrote(0), do(7, 0, 1), wrote(7)]
        wanted = [OK] * 5 + [shown(0, 1, 1, 2, 3, 4), NOT_NOW, PUTS, OK, PUTS]
        self.assertEqual(ask(*calls), wanted)


class LeftAsItWas(OneByOne):
    def test_the_list_is_the_same_afterwards(self):
        calls = list(EVERY_CALL)
        answers(calls)
        self.assertEqual(calls, EVERY_CALL)

    def test_the_list_is_not_changed_for_a_while_either(self):
        given = taken_apart(answers(NeverChanged(EVERY_CALL)))
        self.assert_each_equal(given, taken_apart(answers(list(EVERY_CALL))))

    def test_a_second_time_gives_the_same(self):
        calls = list(EVERY_CALL)
        first = answers(calls)
        kept = list(first)
        first.clear()
        self.assert_each_equal(taken_apart(answers(calls)), taken_apart(kept))

    def test_nothing_is_kept_from_one_time_to_the_next(self):
        answers(laid_out([begin(0, 0, 2), do(0)]))
        self.assertEqual(ask(begin(0, 0, 9), begin(0, 0, 2), record(0)), [WRONG, OK, NOT_NOW])
        answers(EVERY_CALL)
        untouched = [[0], NOT_NOW] + [[0, 0]] * 16
        self.assertEqual(ask(begin(7, 1, 2), *look(7)), [OK, NOT_NOW] + untouched)
        answers(laid_out([begin(0, 0, 2), do(0)]))
        with self.assertRaises(Exception):
            answers(record(0))

    def test_nothing_is_printed_read_or_imported(self):
        before = set(sys.modules)
        printed = io.StringIO()
        stdin = sys.stdin
        # Any reading of it fails, since None has no such method.
        sys.stdin = None
        try:
            with contextlib.redirect_stdout(printed), contextlib.redirect_stderr(printed):
                answers(EVERY_CALL)
        finally:
            sys.stdin = stdin
        self.assertEqual(printed.getvalue(), "")
        self.assertEqual(set(sys.modules), before)

    def test_the_package_draws_from_its_own_files_alone(self):
        for path in sorted(PACKAGE.glob("**/*.py")):
            for node in ast.walk(ast.parse(path.read_text(encoding="utf-8"))):
                with self.subTest(path=path.name):
                    self.assertNotIsInstance(node, ast.Import)
                    if isinstance(node, ast.ImportFrom):
                        self.assertEqual(node.module.split(".")[0], "nowaiting")


if __name__ == "__main__":
    unittest.main()
