"""Promise 2: uo_do, and what promise 6 says of its count."""

import unittest

from nowaiting.member import Member
from tests.helper import (
    GREATEST, GREATEST_64, LEAST, NOT_NOW, OK, STATES, WRONG,
    ask, begin, calls_later_to, calls_to, do, do_in, go_on, look, record, record_in, shown, wrote, wrote_in,
)


class Do(unittest.TestCase):
    def test_each_what_and_key_about_the_edges(self):
        for what in range(-2, 7):
            for key in range(-2, 19):
                with self.subTest(what=what, key=key):
                    right = what in (0, 1, 2, 3) and key in range(16)
                    self.assertEqual(ask(begin(0, 0, 2), do(0, what, key, 1, 2)), [OK, OK if right else WRONG])

    def test_the_greatest_and_the_least_numbers(self):
        for far in (LEAST, GREATEST):
            for what, key in ((far, 0), (0, far), (far, far)):
                with self.subTest(what=what, key=key):
                    self.assertEqual(ask(begin(0, 0, 2), do(0, what, key)), [OK, WRONG])

    def test_v_and_w_at_their_edges(self):
        for v in (0, GREATEST_64):
            for w in (0, GREATEST_64):
                with self.subTest(v=v, w=w):
                    calls = [begin(0, 1, 2), do(0, 3, 15, v, w), record(0)]
                    self.assertEqual(ask(*calls), [OK, OK, shown(1, 1, 3, 15, v, w)])

    def test_it_tells_behind_it(self):
        calls = [begin(0, 1, 2), do(0, 1, 2, 3, 4), record(0), wrote(0)]
        self.assertEqual(ask(*calls), [OK, OK, shown(1, 1, 1, 2, 3, 4), [16]])

    def test_wrong_arguments_come_first_in_every_state(self):
        for state in STATES:
            for what, key in ((-1, 0), (4, 0), (0, -1), (0, 16), (4, 16), (LEAST, GREATEST)):
                with self.subTest(state=state, what=what, key=key):
                    before = calls_to(state)
                    self.assertEqual(ask(*before, do(0, what, key), record(0))[-2:], [WRONG, record_in(state)])
                    self.assertEqual(ask(*before, do(0, what, key), wrote(0))[-2:], [WRONG, wrote_in(state)])
                    self.assertEqual(ask(*before, do(0, what, key), do(0))[-2:], [WRONG, do_in(state)])

    def test_not_idle_it_is_refused_and_all_is_as_it_was(self):
        for state in ("tells", "asks", "puts"):
            with self.subTest(state=state):
                before = calls_to(state)
                again = do(0, 1, 3, 11, 12)
                self.assertEqual(ask(*before, again, record(0))[-2:], [NOT_NOW, record_in(state)])
                self.assertEqual(ask(*before, again, wrote(0))[-2:], [NOT_NOW, wrote_in(state)])

    def test_a_refusal_leaves_all_that_a_process_keeps(self):
        for state in STATES:
            refusals = [(do(0, 4, 0), WRONG), (do(0, 0, 16), WRONG), (do(0, -1, 0), WRONG), (do(0, 0, -1), WRONG)]
            if state != "idle":
                refusals.append((do(0, 1, 3, 11, 12), NOT_NOW))
            for refused, why in refusals:
                with self.subTest(state=state, refused=refused):
                    before = calls_later_to(state)
                    answered = ask(*before, refused, *look(), *go_on())
                    self.assertEqual(answered.pop(len(before)), why)
                    self.assertEqual(answered, ask(*before, *look(), *go_on()))

    def test_a_refusal_does_not_count(self):
        calls = [begin(0, 0, 2), do(0, 4, 0), do(0, 0, 16), do(0, 0, 0), record(0), do(0, 0, 0), record(0)]
        first = shown(0, 1, 0, 0, 0, 0)
        self.assertEqual(ask(*calls), [OK, WRONG, WRONG, OK, first, NOT_NOW, first])


class Counts(unittest.TestCase):
    """No list of calls comes to the greatest counts, so they are set here."""

    def assert_next_count(self, count, wanted):
        member = Member(1, 2)
        member.count = count
        self.assertEqual(member.do(2, 3, 4, 5), OK)
        self.assertEqual(member.count, wanted)
        self.assertEqual(member.record, (2, wanted, 35, 4, 5))
        self.assertEqual(member.show_record(), shown(1, wanted, 2, 3, 4, 5))

    def test_it_is_one_more(self):
        self.assert_next_count(1, 2)
        self.assert_next_count(255, 256)

    def test_behind_the_greatest_comes_0(self):
        self.assert_next_count(GREATEST_64 - 1, GREATEST_64)
        self.assert_next_count(GREATEST_64, 0)


if __name__ == "__main__":
    unittest.main()
