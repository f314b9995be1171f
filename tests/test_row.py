"""Promise 4 and 5, over the whole row: the cells in turn, whose place is wanted at each, and where it is full."""

import unittest

from tests.helper import (
    ADD, ANSWERED, FULL, GREATEST_64, NOBODYS, NOT_NOW, OK, PUTS, READ, WRITE, WRONG, OneByOne,
    answer, ask, ask_within, begin, do, got, laid_out, look, place, record, shown, value, wrote,
)

ADDS_ONE = (0, 0, 16 * ADD + 5, 1, 0)


def turn_at(cell, me, n):
    """Give what is answered where a process goes on to this cell."""
    if cell == 256:
        return FULL
    return PUTS if cell % n == me else [16 + cell % n]


def through_cells(me, n, start, end, with_places=False):
    """Give calls, and what they answer, from where it goes on to one cell until it goes on to another."""
    calls = []
    wanted = []
    for cell in range(start, end):
        if with_places:
            calls.append(place(0))
            wanted.append([cell])
        if cell % n != me:
            calls.append(got(0, NOBODYS))
            wanted.append(PUTS)
        calls.append(got(0, ADDS_ONE))
        wanted.append(turn_at(cell + 1, me, n))
    return calls, wanted


def at_cell(me, n, cell):
    """Give calls that bring a process whose first wish this is on to a cell, and what they answer."""
    calls, wanted = through_cells(me, n, 0, cell)
    return [begin(0, me, n), do(0, ADD, 7, 3, 4), wrote(0)] + calls, [OK, OK, turn_at(0, me, n)] + wanted


class InOneList(OneByOne):
    """As far as 400 calls and 16000 numbers come."""

    def assert_walk(self, me, n, with_places, least):
        calls, wanted = at_cell(me, n, 0)
        cell = 0
        # Room is left for one more cell, and for the two calls behind the last one.
        while len(calls) <= 400 - 5 and len(laid_out(calls)) <= 16000 - 93:
            more_calls, more_wanted = through_cells(me, n, cell, cell + 1, with_places)
            calls += more_calls
            wanted += more_wanted
            cell += 1
        self.assertGreaterEqual(cell, least)
        given = ask(*calls, place(0), value(0, 5))
        self.assert_each_equal(given, wanted + [[cell], [0, cell]])

    def test_the_place_and_the_turn_at_each_cell(self):
        for n, least in ((2, 155), (3, 145), (8, 135)):
            for me in range(n):
                with self.subTest(n=n, me=me):
                    self.assert_walk(me, n, True, least)

    def test_as_far_as_it_comes(self):
        for n, least in ((2, 245), (3, 220), (8, 195)):
            for me in range(n):
                with self.subTest(n=n, me=me):
                    self.assert_walk(me, n, False, least)

    def test_its_own_stands_at_each_cell_as_far_as_it_comes(self):
        """A wish a cell: it goes on from where it was, and its count is the cell's number and one."""
        for n in (2, 3, 8):
            with self.subTest(n=n):
                calls = [begin(0, 1, n)]
                wanted = [OK]
                for cell in range(60):
                    own = (2, cell + 1, 16 * ADD + 3, 2, 0)
                    asks = cell % n != 1
                    calls += [do(0, ADD, 3, 2, 0), wrote(0)] + ([got(0, NOBODYS)] if asks else [])
                    calls += [got(0, own), answer(0), place(0)]
                    wanted += [OK, turn_at(cell, 1, n)] + ([PUTS] if asks else [])
                    wanted += [ANSWERED, [0, 2 * cell + 2], [cell + 1]]
                self.assert_each_equal(ask(*calls), wanted)

    def test_the_turns_by_hand(self):
        """Process 1 of 3: cell 0 is process 0's turn, cell 1 its own, cell 2 process 2's, cell 3 process 0's."""
        calls = [begin(0, 1, 3), do(0), wrote(0)] + [got(0, NOBODYS)] * 7
        self.assertEqual(ask(*calls), [OK, OK, [16], PUTS, PUTS, [18], PUTS, [16], PUTS, PUTS])


class WithinTheProgram(OneByOne):
    """What lies beyond one list: the same calls, asked from within."""

    def test_every_cell_to_the_end(self):
        for n in range(2, 9):
            for me in range(n):
                with self.subTest(n=n, me=me):
                    calls, wanted = through_cells(me, n, 0, 256, True)
                    before = [begin(0, me, n), do(0, ADD, 7, 3, 4), wrote(0)]
                    given = ask_within(*before, *calls, place(0), value(0, 5), value(0, 7), answer(0))
                    behind = [[256], [0, 256], [0, 0], NOT_NOW]
                    self.assert_each_equal(given, [OK, OK, turn_at(0, me, n)] + wanted + behind)

    def test_uo_got_at_the_last_cell_finds_the_row_full(self):
        for n in (2, 3, 8):
            for me in range(n):
                for stands in (NOBODYS, (me + 1, 2, 16, 1, 0), ((me + 1) % n + 1, 1, 16, 1, 0)):
                    with self.subTest(n=n, me=me, stands=stands):
                        calls = at_cell(me, n, 255)[0] + ([got(0, NOBODYS)] if 255 % n != me else [])
                        given = ask_within(*calls, place(0), got(0, stands), place(0), record(0), got(0, NOBODYS))
                        self.assertEqual(given[-6:], [PUTS, [255], FULL, [256], NOT_NOW, NOT_NOW])

    def test_what_stands_in_the_last_cell_is_done(self):
        calls = at_cell(1, 2, 255)[0] + [got(0, (0, 0, 16 + 8, 77, 0)), value(0, 8), value(0, 5)]
        self.assertEqual(ask_within(*calls)[-3:], [FULL, [0, 77], [0, 255]])

    def test_its_own_record_in_the_last_cell_is_its_answer(self):
        for n in (2, 3, 8):
            for me in range(n):
                with self.subTest(n=n, me=me):
                    calls = at_cell(me, n, 255)[0] + ([got(0, NOBODYS)] if 255 % n != me else [])
                    calls += [got(0, (me + 1, 1, 16 * ADD + 5, 3, 4)), place(0), answer(0), value(0, 5), record(0)]
                    wanted = [ANSWERED, [256], [0, 258], [0, 258], NOT_NOW]
                    self.assertEqual(ask_within(*calls)[-5:], wanted)

    def test_behind_that_answer_uo_wrote_finds_the_row_full(self):
        calls = at_cell(1, 2, 255)[0] + [got(0, (2, 1, 16 * ADD + 7, 3, 4))]
        calls += [do(0, WRITE, 7, 9, 0), record(0), place(0), wrote(0), place(0), answer(0), value(0, 7)]
        wanted = [ANSWERED, OK, shown(1, 2, WRITE, 7, 9, 0), [256], FULL, [256], [0, 3], [0, 3]]
        self.assertEqual(ask_within(*calls)[-8:], wanted)

    def full(self, me=0, n=3):
        return at_cell(me, n, 256)[0]

    def test_it_is_idle_behind_a_full_row(self):
        for me in range(3):
            with self.subTest(me=me):
                given = ask_within(*self.full(me), record(0), wrote(0), got(0, NOBODYS), place(0), answer(0), do(0))
                self.assertEqual(given[-7:], [FULL, NOT_NOW, NOT_NOW, NOT_NOW, [256], NOT_NOW, OK])

    def test_each_later_wish_finds_the_row_full_and_counts(self):
        calls = self.full()
        wanted = []
        for count in range(2, 6):
            calls += [do(0, READ, 5, count, GREATEST_64), do(0), got(0, NOBODYS), record(0), wrote(0), place(0)]
            calls += [value(0, 5), answer(0)]
            wanted += [OK, NOT_NOW, NOT_NOW, shown(0, count, READ, 5, count, GREATEST_64), FULL, [256]]
            wanted += [[0, 256], NOT_NOW]
        self.assert_each_equal(ask_within(*calls)[-32:], wanted)

    def test_a_full_row_leaves_its_last_answer(self):
        calls = at_cell(0, 2, 4)[0] + [got(0, (1, 1, 16 * ADD + 5, 3, 4)), do(0, WRITE, 5, 1), wrote(0)]
        calls += through_cells(0, 2, 5, 256)[0] + [answer(0), do(0), wrote(0), answer(0), value(0, 5)]
        self.assertEqual(ask_within(*calls)[-6:], [FULL, [0, 7], OK, FULL, [0, 7], [0, 258]])

    def test_wrong_arguments_behind_a_full_row(self):
        wrong = [do(0, 4, 0), do(0, 0, 16), value(0, 16), value(0, -1), begin(0, 3, 3)]
        self.assertEqual(ask_within(*self.full(), *wrong, place(0))[-6:], [WRONG] * 5 + [[256]])

    def test_begun_anew_behind_a_full_row(self):
        given = ask_within(*self.full(), begin(0, 1, 2), *look(), do(0, WRITE, 1, 2, 3), record(0), wrote(0))
        wanted = [OK, NOT_NOW, [0], NOT_NOW] + [[0, 0]] * 16 + [OK, shown(1, 1, WRITE, 1, 2, 3), [16]]
        self.assertEqual(given[-23:], wanted)


if __name__ == "__main__":
    unittest.main()
