"""Promise 4, what it says of uo_got, while the process puts; and what a record does."""

import unittest

from nowaiting.member import Member
from tests.helper import (
    ADD, ANSWERED, GREATEST_64, NOBODYS, NOT_NOW, OK, PUTS, READ, WRITE,
    answer, ask, begin, bytes_of, do, got, look, place, record, shown, value, wrote,
)


def standing(deed, v, w, whose=1, count=1):
    return (whose, count, deed, v, w)


class OneDeed(unittest.TestCase):
    """Process 0 of 2: in cell 0 stands nobody's write of a value to start with, in cell 1 what is tested."""

    def done(self, start, deed, v, w, key):
        """Give the answer and the value behind it, where the key was start and its own record stands there so."""
        calls = [begin(0, 0, 2), do(0), wrote(0), got(0, standing(16 + key, start, 0, 0, 0)), got(0, NOBODYS)]
        calls += [got(0, standing(deed, v, w)), answer(0), value(0, key), place(0)]
        calls += [value(0, other) for other in range(16) if other != key]
        answered = ask(*calls)
        self.assertEqual(answered[:6], [OK, OK, PUTS, [17], PUTS, ANSWERED])
        self.assertEqual(answered[8:], [[2]] + [[0, 0]] * 15)
        for shown_number in answered[6:8]:
            self.assertEqual(len(shown_number), 2)
            self.assertEqual(shown_number[0], 0)
        return answered[6][1], answered[7][1]

    def test_read(self):
        for start in (0, 5, GREATEST_64):
            self.assertEqual(self.done(start, 3, 8, 9, 3), (start, start))

    def test_write(self):
        for start, v in ((0, 8), (5, 8), (5, 0), (5, 5), (GREATEST_64, 1), (1, GREATEST_64)):
            self.assertEqual(self.done(start, 16 + 3, v, 9, 3), (start, v))

    def test_add(self):
        for start, v, after in ((0, 8, 8), (5, 8, 13), (5, 0, 5), (0, GREATEST_64, GREATEST_64)):
            self.assertEqual(self.done(start, 32 + 3, v, 9, 3), (after, after))

    def test_add_beyond_the_greatest(self):
        edge = 2 ** 63
        for start, v, after in (
            (GREATEST_64, 0, GREATEST_64), (GREATEST_64, 1, 0), (1, GREATEST_64, 0), (GREATEST_64, 2, 1),
            (GREATEST_64, GREATEST_64, GREATEST_64 - 1), (edge, edge, 0), (edge, edge - 1, GREATEST_64),
            (edge + 4, edge, 4),
        ):
            with self.subTest(start=start, v=v):
                self.assertEqual(self.done(start, 32 + 3, v, 9, 3), (after, after))

    def test_swap_where_the_value_is_v(self):
        for start, w in ((0, 9), (5, 9), (5, 0), (5, 5), (GREATEST_64, 1), (0, GREATEST_64), (GREATEST_64, 0)):
            self.assertEqual(self.done(start, 48 + 3, start, w, 3), (start, w))

    def test_swap_where_the_value_is_not_v(self):
        for start, v in ((0, 1), (5, 4), (5, 6), (GREATEST_64, 0), (0, GREATEST_64), (2 ** 32, 0), (2 ** 63 + 1, 1)):
            self.assertEqual(self.done(start, 48 + 3, v, 9, 3), (start, start))

    def test_each_deed_at_each_key(self):
        for key in range(16):
            with self.subTest(key=key):
                self.assertEqual(self.done(6, key, 8, 9, key), (6, 6))
                self.assertEqual(self.done(6, 16 + key, 8, 9, key), (6, 8))
                self.assertEqual(self.done(6, 32 + key, 8, 9, key), (14, 14))
                self.assertEqual(self.done(6, 48 + key, 6, 9, key), (6, 9))
                self.assertEqual(self.done(6, 48 + key, 8, 9, key), (6, 6))

    def test_a_third_number_of_64_and_more_tells_it_modulo_64(self):
        for beyond in (64, 128, 192, 256, 1024, 2 ** 32, 2 ** 63, 2 ** 64 - 64):
            with self.subTest(beyond=beyond):
                self.assertEqual(self.done(6, beyond + 3, 8, 9, 3), (6, 6))
                self.assertEqual(self.done(6, beyond + 16 + 3, 8, 9, 3), (6, 8))
                self.assertEqual(self.done(6, beyond + 32 + 3, 8, 9, 3), (14, 14))
                self.assertEqual(self.done(6, beyond + 48 + 3, 6, 9, 3), (6, 9))
        self.assertEqual(self.done(6, GREATEST_64, 6, 9, 15), (6, 9))
        self.assertEqual(self.done(6, 64, 6, 9, 0), (6, 6))
        self.assertEqual(self.done(6, 63, 6, 9, 15), (6, 9))


class Whose(unittest.TestCase):
    """What a record does is done whosever it is."""

    FIRST_NUMBERS = (0, 1, 2, 3, 4, 5, 8, 9, 256, 2 ** 32, 2 ** 63, GREATEST_64)

    def test_what_it_does_is_done_in_every_case(self):
        for whose in self.FIRST_NUMBERS:
            with self.subTest(whose=whose):
                calls = [begin(0, 0, 3), do(0), wrote(0)]
                calls += [got(0, (whose, 5, 16 + 1, 8, 9)), value(0, 1), place(0), got(0, NOBODYS)]
                calls += [got(0, (whose, 6, 32 + 1, 7, 9)), value(0, 1), place(0), got(0, NOBODYS)]
                calls += [got(0, (whose, 7, 48 + 1, 15, 9)), value(0, 1), place(0)]
                calls += [got(0, (whose, 8, 48 + 1, 15, 3)), value(0, 1), place(0), answer(0)]
                wanted = [[17], [0, 8], [1], PUTS, [18], [0, 15], [2], PUTS, PUTS, [0, 9], [3]]
                self.assertEqual(ask(*calls)[3:], wanted + [[17], [0, 9], [4], NOT_NOW])

    def test_nobodys_record_of_zeros_reads(self):
        calls = [begin(0, 0, 2), do(0), wrote(0), got(0, NOBODYS), *look()]
        self.assertEqual(ask(*calls)[3:], [[17], NOT_NOW, [1], NOT_NOW] + [[0, 0]] * 16)

    def test_what_another_does_is_no_answer_of_its_own(self):
        calls = [begin(0, 0, 2), do(0, WRITE, 2, 5), wrote(0), got(0, (2, 1, 32 + 2, 7, 0)), answer(0)]
        # What it wrote itself answers the other's 7.
        calls += [got(0, NOBODYS), got(0, (1, 1, 16 + 2, 5, 0)), answer(0), value(0, 2)]
        self.assertEqual(ask(*calls)[3:], [[17], NOT_NOW, PUTS, ANSWERED, [0, 7], [0, 5]])


class Own(unittest.TestCase):
    """Process 0 of 2 wants to add 7 to key 5, and puts at cell 0."""

    BEFORE = [begin(0, 0, 2), do(0, ADD, 5, 7, 9), wrote(0)]

    def behind(self, stands):
        calls = self.BEFORE + [got(0, stands), record(0), answer(0), value(0, 5), value(0, 6), place(0)]
        return ask(*calls)[3:]

    def test_its_own_record_stands(self):
        self.assertEqual(self.behind((1, 1, 37, 7, 9)), [ANSWERED, NOT_NOW, [0, 7], [0, 7], [0, 0], [1]])

    def test_with_other_numbers_behind_what_stands_is_what_was_done(self):
        self.assertEqual(self.behind((1, 1, 37, 8, 9)), [ANSWERED, NOT_NOW, [0, 8], [0, 8], [0, 0], [1]])
        self.assertEqual(self.behind((1, 1, 38, 8, 9)), [ANSWERED, NOT_NOW, [0, 8], [0, 0], [0, 8], [1]])
        self.assertEqual(self.behind((1, 1, 22, 8, 9)), [ANSWERED, NOT_NOW, [0, 0], [0, 0], [0, 8], [1]])
        self.assertEqual(self.behind((1, 1, 54, 0, 4)), [ANSWERED, NOT_NOW, [0, 0], [0, 0], [0, 4], [1]])
        self.assertEqual(self.behind((1, 1, 5, 7, 9)), [ANSWERED, NOT_NOW, [0, 0], [0, 0], [0, 0], [1]])

    def test_each_of_the_others_different_alone(self):
        for stands in ((1, 1, 36, 7, 9), (1, 1, 37, 6, 9), (1, 1, 37, 7, 8), (1, 1, 37 + 64, 7, 9)):
            with self.subTest(stands=stands):
                self.assertEqual(self.behind(stands)[0], ANSWERED)

    def test_the_first_number_the_same_and_the_second_not(self):
        for count in (0, 2, 3, 257, 2 ** 32 + 1, 2 ** 63 + 1, GREATEST_64):
            with self.subTest(count=count):
                wanted = [[17], NOT_NOW, NOT_NOW, [0, 7], [0, 0], [1]]
                self.assertEqual(self.behind((1, count, 37, 7, 9)), wanted)

    def test_the_second_number_the_same_and_the_first_not(self):
        for whose in (0, 2, 3, 9, 257, 2 ** 32 + 1, 2 ** 63 + 1, GREATEST_64):
            with self.subTest(whose=whose):
                wanted = [[17], NOT_NOW, NOT_NOW, [0, 7], [0, 0], [1]]
                self.assertEqual(self.behind((whose, 1, 37, 7, 9)), wanted)

    def test_at_a_turn_of_anothers_too_its_own_may_stand(self):
        calls = [begin(0, 1, 2), do(0, ADD, 5, 7, 9), wrote(0), got(0, (1, 4, 16, 3, 4))]
        calls += [got(0, (2, 1, 37, 7, 9)), answer(0), value(0, 0), place(0), do(0)]
        self.assertEqual(ask(*calls)[3:], [PUTS, ANSWERED, [0, 7], [0, 0], [1], OK])

    def test_its_candidate_stands_and_it_goes_on(self):
        told = (1, 4, 16, 3, 4)
        calls = [begin(0, 1, 3), do(0, ADD, 5, 7, 9), wrote(0), got(0, told), got(0, told)]
        calls += [record(0), answer(0), value(0, 0), place(0)]
        self.assertEqual(ask(*calls)[3:], [PUTS, PUTS, shown(1, 1, ADD, 5, 7, 9), NOT_NOW, [0, 3], [1]])

    def test_idle_behind_it_no_call_but_uo_do_moves_it(self):
        calls = self.BEFORE + [got(0, (1, 1, 37, 7, 9)), got(0, (1, 1, 37, 7, 9)), wrote(0), record(0)]
        calls += [answer(0), value(0, 5), place(0), do(0, READ, 5), record(0)]
        wanted = [ANSWERED, NOT_NOW, NOT_NOW, NOT_NOW, [0, 7], [0, 7], [1], OK, shown(0, 2, READ, 5, 0, 0)]
        self.assertEqual(ask(*calls)[3:], wanted)

    def test_the_next_wish_has_a_count_of_one_more(self):
        calls = [begin(0, 0, 2)]
        wanted = [OK]
        for count in range(1, 6):
            me_again = [] if count % 2 else [got(0, NOBODYS)]
            calls += [do(0, ADD, 5, 7), record(0), wrote(0)] + me_again + [got(0, (1, count, 37, 7, 0)), answer(0)]
            wanted += [OK, shown(0, count, ADD, 5, 7, 0), [17] if me_again else PUTS]
            wanted += ([PUTS] if me_again else []) + [ANSWERED, [0, 7 * count]]
        self.assertEqual(ask(*calls), wanted)

    def test_an_earlier_record_of_its_own_is_not_this_one(self):
        calls = self.BEFORE + [got(0, (1, 1, 37, 7, 9)), do(0, ADD, 5, 7, 9), wrote(0), got(0, NOBODYS)]
        calls += [got(0, (1, 1, 37, 7, 9)), answer(0), got(0, (1, 2, 37, 7, 9)), answer(0)]
        self.assertEqual(ask(*calls)[3:], [ANSWERED, OK, [17], PUTS, PUTS, [0, 7], ANSWERED, [0, 21]])


class CountRound(unittest.TestCase):
    """Promise 6, where no list of calls comes to: a process whose own count comes round."""

    def test_its_own_record_with_a_count_of_0(self):
        member = Member(0, 2)
        member.count = GREATEST_64
        self.assertEqual(member.do(ADD, 5, 7, 9), OK)
        self.assertEqual(member.wrote(), PUTS)
        self.assertEqual(member.got(bytes_of((1, GREATEST_64, 37, 7, 9))), [17])
        self.assertEqual(member.got(bytes_of(NOBODYS)), PUTS)
        self.assertEqual(member.got(bytes_of((1, 0, 37, 7, 9))), ANSWERED)
        self.assertEqual(member.show_answer(), [0, 14])


if __name__ == "__main__":
    unittest.main()
