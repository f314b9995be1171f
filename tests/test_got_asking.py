"""Promise 4, what it says of uo_got, while the process asks and where it is refused."""

import unittest

from tests.helper import (
    ADD, ANSWERED, GREATEST_64, NOBODYS, NOT_NOW, OK, PUTS, READ, STATES, SWAP, WRITE,
    answer, ask, begin, calls_later_to, calls_to, do, go_on, got, look, place, record, shown, shown_numbers, value,
    wrote,
)

OWN = shown(1, 1, ADD, 5, 7, 9)


def asking_with(told, me=1, n=2):
    """Give what is answered, and the record shown, where a process at cell 0 is told process 0's place."""
    answered = ask(begin(0, me, n), do(0, ADD, 5, 7, 9), wrote(0), got(0, told), record(0))
    return answered[2:]


class Refused(unittest.TestCase):
    def test_idle_and_telling_it_is_refused_and_all_is_as_it_was(self):
        for calls in (calls_to, calls_later_to):
            for state in ("idle", "tells"):
                for told in (NOBODYS, (1, 1, 16, 3, 4), (2, 1, 33, 3, 4), (2, 2, 37, 3, 4), (3, 9, 16, 1, 1)):
                    with self.subTest(calls=calls.__name__, state=state, told=told):
                        before = calls(state)
                        answered = ask(*before, got(0, told), *look(), *go_on())
                        self.assertEqual(answered.pop(len(before)), NOT_NOW)
                        self.assertEqual(answered, ask(*before, *look(), *go_on()))

    def test_asking_and_putting_it_is_not_refused(self):
        for calls in (calls_to, calls_later_to):
            for state in ("asks", "puts"):
                with self.subTest(calls=calls.__name__, state=state):
                    self.assertNotEqual(ask(*calls(state), got(0, NOBODYS))[-1], NOT_NOW)

    def test_in_the_states_those_are_that_are_meant(self):
        """What brings a process to a state is told apart by uo_do, uo_wrote and uo_record."""
        wanted = {"idle": (True, False, False), "tells": (False, True, True)}
        wanted.update({"asks": (False, False, False), "puts": (False, False, True)})
        for calls in (calls_to, calls_later_to):
            for state in STATES:
                with self.subTest(calls=calls.__name__, state=state):
                    taken = [ask(*calls(state), call)[-1] != NOT_NOW for call in (do(0), wrote(0), record(0))]
                    self.assertEqual(tuple(taken), wanted[state])


class Candidate(unittest.TestCase):
    def assert_helped(self, told):
        self.assertEqual(asking_with(told), [[16], PUTS, shown_numbers(told)])

    def assert_own(self, told):
        self.assertEqual(asking_with(told), [[16], PUTS, OWN])

    def test_a_greater_count_than_the_one_seen(self):
        for count in (1, 2, 255, 256, 2 ** 32, 2 ** 63, GREATEST_64):
            with self.subTest(count=count):
                self.assert_helped((1, count, 16, 3, 4))

    def test_its_numbers_stay_as_they_came(self):
        for third in (0, 63, 64, 65, 1000, 2 ** 32, GREATEST_64):
            for v, w in ((0, 0), (0, GREATEST_64), (GREATEST_64, 0), (0x0102030405060708, 0xF8F7F6F5F4F3F2F1)):
                with self.subTest(third=third, v=v, w=w):
                    self.assert_helped((1, 1, third, v, w))

    def test_its_bytes_by_hand(self):
        told = [1, 0, 0, 0, 0, 0, 0, 0] + [0, 1, 0, 0, 0, 0, 0, 0] + [8, 7, 6, 5, 4, 3, 2, 1]
        told += [255, 255, 255, 255, 255, 255, 255, 255] + [0, 0, 0, 0, 0, 0, 0, 128]
        answered = ask(begin(0, 1, 2), do(0), wrote(0), [4, 0, 40] + told, record(0))
        self.assertEqual(answered[-2:], [PUTS, [0] + told])

    def test_none_told_yet(self):
        self.assert_own(NOBODYS)

    def test_the_same_count_as_seen(self):
        self.assert_own((1, 0, 16, 3, 4))

    def test_of_nobody(self):
        for count in (1, 2, GREATEST_64):
            self.assert_own((0, count, 16, 3, 4))

    def test_of_another_process(self):
        for whose in (2, 3, 4, 8, 9):
            for n in (2, 3, 8):
                with self.subTest(whose=whose, n=n):
                    self.assertEqual(asking_with((whose, 5, 16, 3, 4), 1, n), [[16], PUTS, OWN])

    def test_of_no_process_far_above(self):
        for whose in (257, 2 ** 32 + 1, 2 ** 63, 2 ** 63 + 1, GREATEST_64 - 1, GREATEST_64):
            with self.subTest(whose=whose):
                self.assert_own((whose, 5, 16, 3, 4))

    def test_every_process_that_is_asked(self):
        """Process n - 1 comes by every other one's turn; a record is looked for at that turn alone."""
        for n in range(2, 9):
            for whose in range(n + 2):
                with self.subTest(n=n, whose=whose):
                    me = n - 1
                    calls = [begin(0, me, n), do(0, WRITE, 1, 2, 3), wrote(0)]
                    wanted = [OK, OK]
                    own = shown(me, 1, WRITE, 1, 2, 3)
                    told = (whose, 4, 18, 5, 6)
                    for turn in range(me):
                        calls += [got(0, told), record(0), got(0, NOBODYS)]
                        wanted += [[16 + turn], PUTS, shown_numbers(told) if whose == turn + 1 else own]
                    self.assertEqual(ask(*calls), wanted + [PUTS])


class Behind(unittest.TestCase):
    def test_it_does_nothing_else(self):
        """What is told is not done yet: no value, no place, no answer and no count seen comes of it."""
        for state_calls in (calls_to, calls_later_to):
            with self.subTest(calls=state_calls.__name__):
                before = state_calls("asks")
                told = (3, 9, 16 * WRITE + 9, 77, 0)
                hidden = look()[1:]
                self.assertEqual(ask(*before, got(0, told), *hidden)[-18:], ask(*before, *hidden)[-18:])

    def test_what_was_told_may_be_told_again_while_it_does_not_stand(self):
        told = (1, 5, 16, 3, 4)
        calls = [begin(0, 1, 2), do(0, ADD, 5, 7, 9), wrote(0), got(0, told), got(0, NOBODYS), got(0, NOBODYS)]
        # Cells 0 and 1 went to nobody, and so at cell 2 it is still to be helped.
        calls += [got(0, told), record(0)]
        self.assertEqual(ask(*calls)[3:], [PUTS, PUTS, [16], PUTS, shown_numbers(told)])

    def test_putting_it_neither_tells_nor_is_idle(self):
        calls = [begin(0, 1, 2), do(0), wrote(0), got(0, (1, 1, 0, 0, 0)), wrote(0), do(0), record(0)]
        self.assertEqual(ask(*calls)[3:], [PUTS, NOT_NOW, NOT_NOW, shown_numbers((1, 1, 0, 0, 0))])

    def test_its_own_record_stays_behind_another_candidate(self):
        calls = [begin(0, 1, 2), do(0, ADD, 5, 7, 9), wrote(0), got(0, (1, 1, 16, 3, 4)), got(0, (1, 1, 16, 3, 4))]
        calls += [record(0), got(0, (2, 1, 37, 7, 9)), answer(0), value(0, 0), value(0, 5), place(0)]
        self.assertEqual(ask(*calls)[3:], [PUTS, PUTS, OWN, ANSWERED, [0, 7], [0, 3], [0, 7], [2]])


class CountSeen(unittest.TestCase):
    """Process 1 of 2 sees counts of process 0 in its cells, and is told another one at cell 2."""

    def told_behind(self, standing, told):
        calls = [begin(0, 1, 2), do(0, ADD, 5, 7, 9), wrote(0), got(0, NOBODYS)]
        calls += [got(0, standing[0]), got(0, standing[1]), got(0, told), record(0)]
        answered = ask(*calls)
        self.assertEqual(answered[:-1], [OK, OK, [16], PUTS, PUTS, [16], PUTS])
        return answered[-1]

    def assert_seen(self, standing, seen):
        """A count is a candidate exactly where it is above the one seen."""
        for count in (0, max(seen - 1, 0), seen, seen + 1, seen + 2, GREATEST_64):
            told = (1, count, 16, 3, 4)
            with self.subTest(standing=standing, count=count):
                self.assertEqual(self.told_behind(standing, told), shown_numbers(told) if count > seen else OWN)

    def test_the_same_count_a_lower_and_a_greater_one(self):
        self.assert_seen([(1, 6, 0, 0, 0), NOBODYS], 6)
        self.assert_seen([NOBODYS, (1, 6, 0, 0, 0)], 6)

    def test_counts_that_rise(self):
        self.assert_seen([(1, 6, 0, 0, 0), (1, 9, 0, 0, 0)], 9)

    def test_a_record_put_twice_is_no_candidate_the_second_time(self):
        told = (1, 6, 16, 3, 4)
        self.assertEqual(self.told_behind([told, NOBODYS], told), OWN)
        self.assertEqual(self.told_behind([told, told], told), OWN)

    def test_a_lower_count_behind_a_greater_one_is_the_one_seen(self):
        """The step says that the count seen is the record's, so it is, lower or not."""
        self.assert_seen([(1, 9, 0, 0, 0), (1, 6, 0, 0, 0)], 6)
        self.assert_seen([(1, 9, 0, 0, 0), (1, 0, 0, 0, 0)], 0)

    def test_behind_the_greatest_count_none_is_greater(self):
        for count in (0, 1, 2 ** 63, GREATEST_64 - 1, GREATEST_64):
            with self.subTest(count=count):
                standing = [NOBODYS, (1, GREATEST_64, 0, 0, 0)]
                self.assertEqual(self.told_behind(standing, (1, count, 16, 3, 4)), OWN)

    def test_behind_a_count_that_came_round_to_0_the_next_is_greater(self):
        standing = [(1, GREATEST_64, 0, 0, 0), (1, 0, 0, 0, 0)]
        self.assertEqual(self.told_behind(standing, (1, 1, 16, 3, 4)), shown_numbers((1, 1, 16, 3, 4)))

    def test_what_else_stands_in_the_record_is_no_matter(self):
        told = (1, 7, GREATEST_64, GREATEST_64, GREATEST_64)
        self.assertEqual(self.told_behind([(1, 6, 0, 0, 0), NOBODYS], told), shown_numbers(told))
        self.assertEqual(self.told_behind([(1, 7, 0, 0, 0), NOBODYS], told), OWN)

    def test_a_first_number_that_is_no_process_and_one_leaves_every_count_seen(self):
        told = (1, 1, 16, 3, 4)
        for whose in (0, 3, 4, 9, 257, 2 ** 32 + 1, 2 ** 63 + 1, GREATEST_64):
            with self.subTest(whose=whose):
                self.assertEqual(self.told_behind([(whose, 5, 0, 0, 0), NOBODYS], told), shown_numbers(told))
                self.assertEqual(self.told_behind([(1, 1, 0, 0, 0), (whose, 0, 0, 0, 0)], told), OWN)

    def test_it_leaves_that_of_the_first_and_the_last_process_too(self):
        for n in range(2, 9):
            for whose in (0, n + 1, 2 * n, 2 * n + 1, GREATEST_64):
                with self.subTest(n=n, whose=whose):
                    calls = [begin(0, 0, n), do(0), wrote(0), got(0, (whose, 5, 0, 0, 0))]
                    wanted = [OK, OK, PUTS]
                    for turn in range(1, n):
                        told = (turn + 1, 1, 16, 3, 4)
                        calls += [got(0, told), record(0), got(0, (whose, 5, 0, 0, 0))]
                        wanted += [[16 + turn], PUTS, shown_numbers(told)]
                    self.assertEqual(ask(*calls), wanted + [PUTS])

    def test_another_process_count_leaves_this_one(self):
        told = (1, 1, 16, 3, 4)
        self.assertEqual(self.told_behind([(2, 5, 0, 0, 0), NOBODYS], told), shown_numbers(told))

    def test_each_process_has_a_count_of_its_own(self):
        """Process 7 of 8 sees count 10 * p of each process p, and one more is a candidate at each turn."""
        calls = [begin(0, 7, 8), do(0), wrote(0)]
        for turn in range(7):
            calls += [got(0, NOBODYS), got(0, (turn + 1, 10 * turn + 1, READ, 0, 0))]
        calls += [got(0, NOBODYS)]
        wanted = []
        for turn in range(7):
            seen = 10 * turn + 1
            told = (turn + 1, seen + turn % 2, 16 * SWAP, 0, 0)
            calls += [got(0, told), record(0), got(0, NOBODYS)]
            wanted += [PUTS, shown_numbers(told) if turn % 2 else shown(7, 1, 0, 0, 0, 0)]
            wanted += [PUTS if turn == 6 else [16 + turn + 1]]
        self.assertEqual(ask(*calls)[-21:], wanted)

    def test_its_own_count_is_seen_too(self):
        """Cells that hold a count of its own that is not this one's leave it going."""
        calls = [begin(0, 0, 2), do(0, ADD, 5, 7, 9), wrote(0), got(0, (1, 9, 0, 0, 0)), got(0, NOBODYS), record(0)]
        self.assertEqual(ask(*calls)[3:], [[17], PUTS, shown(0, 1, ADD, 5, 7, 9)])

    def test_counts_seen_stay_from_one_wish_to_the_next(self):
        calls = [begin(0, 1, 2), do(0), wrote(0), got(0, NOBODYS), got(0, (1, 6, 0, 0, 0)), got(0, (2, 1, 0, 0, 0))]
        calls += [do(0, ADD, 5, 7, 9), wrote(0)]
        own = shown(1, 2, ADD, 5, 7, 9)
        self.assertEqual(ask(*calls, got(0, (1, 6, 16, 3, 4)), record(0))[-3:], [[16], PUTS, own])
        self.assertEqual(ask(*calls, got(0, (1, 7, 16, 3, 4)), record(0))[-1], shown_numbers((1, 7, 16, 3, 4)))

    def test_begun_anew_no_count_is_seen(self):
        calls = [begin(0, 1, 2), do(0), wrote(0), got(0, NOBODYS), got(0, (1, 6, 0, 0, 0))]
        calls += [begin(0, 1, 2), do(0), wrote(0), got(0, (1, 1, 16, 3, 4)), record(0)]
        self.assertEqual(ask(*calls)[-2:], [PUTS, shown_numbers((1, 1, 16, 3, 4))])


if __name__ == "__main__":
    unittest.main()
