"""Promise 1: uo_begin."""

import unittest

from tests.helper import (
    GREATEST, LEAST, NOT_NOW, OK, PUTS, STATES, WRONG,
    ask, begin, calls_later_to, calls_to, do, do_in, go_on, look, record, record_in, shown, wrote, wrote_in,
)


class Begin(unittest.TestCase):
    def test_each_me_and_n_about_the_edges(self):
        for n in range(-2, 12):
            for me in range(-2, 13):
                with self.subTest(me=me, n=n):
                    right = n in (2, 3, 4, 5, 6, 7, 8) and me in range(n)
                    self.assertEqual(ask(begin(0, me, n)), [OK if right else WRONG])

    def test_the_edges_by_hand(self):
        given = [(0, 1), (0, 2), (1, 2), (2, 2), (-1, 2), (-1, 8), (0, 8), (7, 8), (8, 8), (0, 9), (8, 9)]
        wanted = [WRONG, OK, OK, WRONG, WRONG, WRONG, OK, OK, WRONG, WRONG, WRONG]
        self.assertEqual(ask(*[begin(0, me, n) for me, n in given]), wanted)

    def test_the_greatest_and_the_least_numbers(self):
        for me in (LEAST, LEAST + 1, 0, 1, GREATEST - 1, GREATEST):
            for n in (LEAST, LEAST + 1, GREATEST - 1, GREATEST):
                with self.subTest(me=me, n=n):
                    self.assertEqual(ask(begin(0, me, n)), [WRONG])
        for n in (2, 8):
            self.assertEqual(ask(begin(0, LEAST, n), begin(0, GREATEST, n)), [WRONG, WRONG])

    def test_every_object_may_be_begun(self):
        self.assertEqual(ask(*[begin(which, 0, 2) for which in range(8)]), [OK] * 8)

    def test_begun_it_is_idle(self):
        self.assertEqual(ask(begin(0, 1, 2), record(0), wrote(0), do(0)), [OK, NOT_NOW, NOT_NOW, OK])

    def test_refused_it_may_be_begun_behind_that(self):
        self.assertEqual(ask(begin(3, 0, 1), begin(3, 1, 2), do(3)), [WRONG, OK, OK])

    def test_a_refusal_leaves_a_process_as_it_was(self):
        for state in STATES:
            for refused in (begin(0, 1, 1), begin(0, 3, 3), begin(0, -1, 8), begin(0, 0, 9)):
                with self.subTest(state=state, refused=refused):
                    before = calls_to(state)
                    self.assertEqual(ask(*before, refused, record(0))[-2:], [WRONG, record_in(state)])
                    self.assertEqual(ask(*before, refused, wrote(0))[-2:], [WRONG, wrote_in(state)])
                    self.assertEqual(ask(*before, refused, do(0))[-2:], [WRONG, do_in(state)])

    def test_a_refusal_leaves_all_that_a_process_keeps(self):
        for state in STATES:
            for refused in (begin(0, 1, 1), begin(0, 3, 3), begin(0, -1, 8), begin(0, 0, 9)):
                with self.subTest(state=state, refused=refused):
                    before = calls_later_to(state)
                    answered = ask(*before, refused, *look(), *go_on())
                    self.assertEqual(answered.pop(len(before)), WRONG)
                    self.assertEqual(answered, ask(*before, *look(), *go_on()))

    def test_a_refusal_leaves_me_and_n(self):
        calls = [begin(0, 1, 2), begin(0, 0, 9), do(0, 1, 2, 3, 4), record(0), wrote(0)]
        self.assertEqual(ask(*calls), [OK, WRONG, OK, shown(1, 1, 1, 2, 3, 4), [16]])

    def test_begun_anew_all_is_new(self):
        for state in STATES:
            with self.subTest(state=state):
                calls = calls_to(state) + [
                    begin(0, 3, 4), record(0), wrote(0), do(0, 3, 15, 1, 2), record(0), wrote(0),
                ]
                wanted = [OK, NOT_NOW, NOT_NOW, OK, shown(3, 1, 3, 15, 1, 2), [16]]
                self.assertEqual(ask(*calls)[-6:], wanted)

    def test_begun_anew_nothing_is_left_of_what_it_kept(self):
        for state in STATES:
            with self.subTest(state=state):
                before = calls_later_to(state)
                anew = [begin(0, 1, 3), *look(), *go_on()]
                self.assertEqual(ask(*before, *anew)[len(before):], ask(*anew))

    def test_begun_it_has_no_answer_and_no_cell_behind_it_and_its_values_are_0(self):
        for me, n in ((0, 2), (1, 2), (0, 8), (7, 8)):
            with self.subTest(me=me, n=n):
                self.assertEqual(ask(begin(0, me, n), *look()), [OK, NOT_NOW, [0], NOT_NOW] + [[0, 0]] * 16)

    def test_begun_anew_with_the_same_numbers_its_count_is_0_again(self):
        calls = [begin(0, 0, 2), do(0), wrote(0), begin(0, 0, 2), do(0, 1, 1, 1, 1), record(0), wrote(0)]
        wanted = [OK, OK, PUTS, OK, OK, shown(0, 1, 1, 1, 1, 1), PUTS]
        self.assertEqual(ask(*calls), wanted)


if __name__ == "__main__":
    unittest.main()
