"""Promise 3: uo_record."""

import unittest

from tests.helper import (
    NOBODYS, NOT_NOW, OK, PUTS, STATES,
    ask, begin, calls_later_to, calls_to, do, go_on, got, look, record, record_in, shown, wrote, wrote_in,
)


class Record(unittest.TestCase):
    def test_in_each_state(self):
        for state in STATES:
            with self.subTest(state=state):
                self.assertEqual(ask(*calls_to(state), record(0))[-1], record_in(state))

    def test_the_bytes_with_the_lowest_first(self):
        v = 0x0807060504030201
        w = 0xF1F2F3F4F5F6F7F8
        wanted = [0]
        wanted += [3, 0, 0, 0, 0, 0, 0, 0]
        wanted += [1, 0, 0, 0, 0, 0, 0, 0]
        wanted += [16 * 3 + 14, 0, 0, 0, 0, 0, 0, 0]
        wanted += [1, 2, 3, 4, 5, 6, 7, 8]
        wanted += [0xF8, 0xF7, 0xF6, 0xF5, 0xF4, 0xF3, 0xF2, 0xF1]
        self.assertEqual(ask(begin(0, 2, 5), do(0, 3, 14, v, w), record(0)), [OK, OK, wanted])

    def test_it_has_the_process_number_and_one(self):
        for me in range(8):
            with self.subTest(me=me):
                calls = [begin(0, me, 8), do(0, 1, 2, 3, 4), record(0)]
                self.assertEqual(ask(*calls)[-1], shown(me, 1, 1, 2, 3, 4))

    def test_it_has_what_and_key(self):
        for what in range(4):
            for key in range(16):
                with self.subTest(what=what, key=key):
                    calls = [begin(0, 0, 2), do(0, what, key, 1, 2), record(0)]
                    self.assertEqual(ask(*calls)[-1], shown(0, 1, what, key, 1, 2))

    def test_asked_twice_it_is_the_same_and_nothing_moves(self):
        for state in STATES:
            with self.subTest(state=state):
                wanted = [record_in(state), record_in(state), wrote_in(state)]
                self.assertEqual(ask(*calls_to(state), record(0), record(0), wrote(0))[-3:], wanted)

    def test_putting_at_its_own_turn_it_shows_its_own_record(self):
        calls = [begin(0, 0, 8), do(0, 3, 9, 5, 6), record(0), wrote(0), record(0)]
        own = shown(0, 1, 3, 9, 5, 6)
        self.assertEqual(ask(*calls), [OK, OK, own, PUTS, own])

    def test_asking_it_is_refused(self):
        self.assertEqual(ask(begin(0, 1, 2), do(0), wrote(0), record(0)), [OK, OK, [16], NOT_NOW])

    def test_putting_it_shows_its_candidate(self):
        calls = [begin(0, 1, 2), do(0, 2, 3, 4, 5), record(0), wrote(0), got(0, (1, 77, 16, 8, 9)), record(0)]
        self.assertEqual(ask(*calls)[2:], [shown(1, 1, 2, 3, 4, 5), [16], PUTS, shown(0, 77, 1, 0, 8, 9)])

    def test_putting_its_own_at_a_turn_of_anothers(self):
        calls = [begin(0, 1, 2), do(0, 2, 3, 4, 5), wrote(0), got(0, NOBODYS), record(0)]
        self.assertEqual(ask(*calls)[2:], [[16], PUTS, shown(1, 1, 2, 3, 4, 5)])

    def test_telling_anew_it_shows_its_new_record(self):
        calls = [begin(0, 1, 2), do(0, 2, 3, 4, 5), wrote(0), got(0, (1, 77, 16, 8, 9)), got(0, (2, 1, 35, 4, 5))]
        calls += [record(0), do(0, 3, 4, 5, 6), record(0)]
        self.assertEqual(ask(*calls)[4:], [[32], NOT_NOW, OK, shown(1, 2, 3, 4, 5, 6)])

    def test_it_leaves_all_that_a_process_keeps(self):
        for state in STATES:
            with self.subTest(state=state):
                before = calls_later_to(state)
                answered = ask(*before, record(0), *look(), *go_on())
                answered.pop(len(before))
                self.assertEqual(answered, ask(*before, *look(), *go_on()))


if __name__ == "__main__":
    unittest.main()
