"""Promise 4, what it says of uo_wrote."""

import unittest

from nowaiting.member import Member
from tests.helper import (
    NOT_NOW, OK, PUTS, STATES,
    ask, begin, calls_later_to, calls_to, do, go_on, look, record, record_in, wrote, wrote_in,
)


class Wrote(unittest.TestCase):
    def test_in_each_state(self):
        for state in STATES:
            with self.subTest(state=state):
                self.assertEqual(ask(*calls_to(state), wrote(0))[-1], wrote_in(state))

    def test_at_cell_0_process_0_puts_and_others_ask_for_its_place(self):
        for n in range(2, 9):
            for me in range(n):
                with self.subTest(me=me, n=n):
                    wanted = PUTS if me == 0 else [16]
                    self.assertEqual(ask(begin(0, me, n), do(0), wrote(0)), [OK, OK, wanted])

    def test_a_second_one_is_refused_and_all_is_as_it_was(self):
        for state in ("idle", "asks", "puts"):
            with self.subTest(state=state):
                wanted = [NOT_NOW, NOT_NOW, record_in(state)]
                self.assertEqual(ask(*calls_to(state), wrote(0), wrote(0), record(0))[-3:], wanted)

    def test_a_refusal_leaves_all_that_a_process_keeps(self):
        for state in ("idle", "asks", "puts"):
            with self.subTest(state=state):
                before = calls_later_to(state)
                answered = ask(*before, wrote(0), *look(), *go_on())
                self.assertEqual(answered.pop(len(before)), NOT_NOW)
                self.assertEqual(answered, ask(*before, *look(), *go_on()))

    def test_it_changes_no_value_no_answer_and_no_place(self):
        for calls in (calls_to, calls_later_to):
            before = calls("tells")
            kept = look()[1:]
            self.assertEqual(ask(*before, wrote(0), *kept)[-18:], ask(*before, *kept)[-18:])

    def test_asking_or_putting_it_is_not_idle(self):
        for state in ("asks", "puts"):
            with self.subTest(state=state):
                self.assertEqual(ask(*calls_to(state), do(0))[-1], NOT_NOW)


class LaterCells(unittest.TestCase):
    """It may come to tell at any cell, also where no list of calls leads, so its place is set here."""

    def telling(self, me, n, place):
        member = Member(me, n)
        member.place = place
        member.do(1, 2, 3, 4)
        return member

    def test_whose_turn_a_cell_is(self):
        for n in range(2, 9):
            for me in range(n):
                for place in (1, 2, 6, 7, 8, 9, 63, 254, 255):
                    with self.subTest(me=me, n=n, place=place):
                        turn = place % n
                        wanted = PUTS if turn == me else [16 + turn]
                        self.assertEqual(self.telling(me, n, place).wrote(), wanted)

    def test_the_row_is_full_behind_cell_255(self):
        for me in range(3):
            with self.subTest(me=me):
                member = self.telling(me, 3, 256)
                self.assertEqual(member.wrote(), [33])
                self.assertEqual(member.show_record(), NOT_NOW)
                self.assertEqual(member.wrote(), NOT_NOW)
                self.assertEqual(member.do(0, 0, 0, 0), OK)
                self.assertEqual(member.wrote(), [33])


if __name__ == "__main__":
    unittest.main()
