"""Promise 5: uo_place, uo_answer and uo_value."""

import unittest

from tests.helper import (
    ADD, ANSWERED, GREATEST, GREATEST_64, LEAST, NOBODYS, NOT_NOW, OK, PUTS, READ, STATES, SWAP, WRITE, WRONG,
    answer, ask, begin, calls_later_to, calls_to, do, go_on, got, look, place, value, wrote,
)

# What process 1 of 3 has behind calls_later_to: cell 0 wrote 21 to key 9, cell 1 was its own add of 11 to key 4.
LATER_VALUES = [[0, {9: 21, 4: 11}.get(key, 0)] for key in range(16)]


class InEachState(unittest.TestCase):
    def test_in_the_beginning(self):
        for state in STATES:
            with self.subTest(state=state):
                self.assertEqual(ask(*calls_to(state), *look())[-18:], [[0], NOT_NOW] + [[0, 0]] * 16)

    def test_later(self):
        for state in STATES:
            with self.subTest(state=state):
                self.assertEqual(ask(*calls_later_to(state), *look())[-18:], [[2], [0, 11]] + LATER_VALUES)

    def test_nothing_moves_by_them(self):
        shows = look()[1:] + [value(0, key) for key in (LEAST, -1, 16, GREATEST)]
        for calls in (calls_to, calls_later_to):
            for state in STATES:
                with self.subTest(calls=calls.__name__, state=state):
                    before = calls(state)
                    twice = ask(*before, *shows, *shows, *go_on())
                    self.assertEqual(twice[-35:], ask(*before, *go_on())[-35:])
                    self.assertEqual(twice[len(before):len(before) + 22], twice[len(before) + 22:len(before) + 44])


class Place(unittest.TestCase):
    def test_it_is_one_more_behind_each_cell_alone(self):
        calls = [begin(0, 1, 2), place(0), do(0), place(0), wrote(0), place(0), got(0, NOBODYS), place(0)]
        calls += [got(0, NOBODYS), place(0), got(0, (2, 1, 0, 0, 0)), place(0), do(0), place(0), wrote(0), place(0)]
        wanted = [OK, [0], OK, [0], [16], [0], PUTS, [0], PUTS, [1], ANSWERED, [2], OK, [2], [16], [2]]
        self.assertEqual(ask(*calls), wanted)

    def test_begun_anew_it_is_0(self):
        for state in STATES:
            self.assertEqual(ask(*calls_later_to(state), begin(0, 1, 3), place(0))[-2:], [OK, [0]])

    def test_a_refused_uo_begin_leaves_it(self):
        for state in STATES:
            self.assertEqual(ask(*calls_later_to(state), begin(0, 3, 3), place(0))[-2:], [WRONG, [2]])


def wishes(*deeds):
    """Give calls of process 0 of 2 whose wishes come true one behind another, with nobody between."""
    calls = [begin(0, 0, 2)]
    for at, (what, key, v, w) in enumerate(deeds):
        calls += [do(0, what, key, v, w), wrote(0)] + ([got(0, NOBODYS)] if at % 2 else [])
        calls += [got(0, (1, at + 1, 16 * what + key, v, w))]
    return calls


class Answer(unittest.TestCase):
    def test_none_yet(self):
        self.assertEqual(ask(begin(0, 0, 2), answer(0)), [OK, NOT_NOW])
        self.assertEqual(ask(*calls_to("puts"), got(0, (2, 1, 32, 7, 0)), answer(0))[-2:], [[17], NOT_NOW])

    def test_one_that_is_0_is_an_answer(self):
        self.assertEqual(ask(*wishes((READ, 3, 0, 0)), answer(0))[-2:], [ANSWERED, [0, 0]])

    def test_one_of_each_kind(self):
        self.assertEqual(ask(*wishes((WRITE, 3, 5, 0)), answer(0))[-1], [0, 0])
        self.assertEqual(ask(*wishes((ADD, 3, 5, 0)), answer(0))[-1], [0, 5])
        self.assertEqual(ask(*wishes((SWAP, 3, 0, 5)), answer(0))[-1], [0, 0])
        self.assertEqual(ask(*wishes((ADD, 3, GREATEST_64, 0)), answer(0))[-1], [0, GREATEST_64])

    def test_the_last_of_several(self):
        deeds = [(ADD, 3, 5, 0), (ADD, 3, 5, 0), (WRITE, 3, 40, 0), (READ, 3, 0, 0), (SWAP, 3, 40, 41)]
        deeds += [(SWAP, 3, 40, 42), (READ, 4, 0, 0), (ADD, 3, GREATEST_64, 0)]
        wanted = [5, 10, 10, 40, 40, 41, 0, 40]
        for several in range(1, len(deeds) + 1):
            with self.subTest(several=several):
                self.assertEqual(ask(*wishes(*deeds[:several]), answer(0))[-1], [0, wanted[several - 1]])

    def test_the_last_stays_while_the_next_is_under_way(self):
        calls = wishes((ADD, 3, 5, 0)) + [do(0, ADD, 3, 6), answer(0), wrote(0), answer(0), got(0, NOBODYS), answer(0)]
        calls += [got(0, (2, 1, 35, 100, 0)), answer(0), got(0, (1, 2, 35, 6, 0)), answer(0)]
        wanted = [ANSWERED, OK, [0, 5], [17], [0, 5], PUTS, [0, 5], PUTS, [0, 5], ANSWERED, [0, 111]]
        self.assertEqual(ask(*calls)[3:], wanted)

    def test_begun_anew_there_is_none_again(self):
        for state in STATES:
            with self.subTest(state=state):
                self.assertEqual(ask(*calls_later_to(state), begin(0, 1, 3), answer(0))[-2:], [OK, NOT_NOW])

    def test_a_refused_uo_begin_leaves_it(self):
        for state in STATES:
            with self.subTest(state=state):
                self.assertEqual(ask(*calls_later_to(state), begin(0, 3, 3), answer(0))[-2:], [WRONG, [0, 11]])


class Value(unittest.TestCase):
    def test_each_key_about_the_edges(self):
        for key in [LEAST, LEAST + 1, GREATEST - 1, GREATEST] + list(range(-20, 40)):
            for calls in (calls_to, calls_later_to):
                for state in STATES:
                    with self.subTest(key=key, calls=calls.__name__, state=state):
                        given = ask(*calls(state), value(0, key))[-1]
                        if key < 0 or key > 15:
                            self.assertEqual(given, WRONG)
                        else:
                            self.assertEqual(given, [0, 0] if calls == calls_to else LATER_VALUES[key])

    def test_the_edges_by_hand(self):
        calls = wishes((WRITE, 0, 5, 0), (WRITE, 15, 6, 0))
        calls += [value(0, key) for key in (-1, 0, 15, 16, LEAST, GREATEST)]
        self.assertEqual(ask(*calls)[-6:], [WRONG, [0, 5], [0, 6], WRONG, WRONG, WRONG])

    def test_each_key_has_a_value_of_its_own(self):
        deeds = [(WRITE, key, GREATEST_64 - key, 0) for key in range(16)]
        given = ask(*wishes(*deeds), *[value(0, key) for key in range(16)])[-16:]
        self.assertEqual(given, [[0, GREATEST_64 - key] for key in range(16)])

    def test_a_wish_alone_changes_none(self):
        """What is wanted, told and put is a value only once it stands in a cell."""
        for state in ("tells", "asks", "puts"):
            self.assertEqual(ask(*calls_to(state), value(0, 5))[-1], [0, 0])

    def test_begun_anew_all_are_0(self):
        calls = [*calls_later_to("asks"), begin(0, 1, 3), *look()]
        self.assertEqual(ask(*calls)[-16:], [[0, 0]] * 16)

    def test_a_refused_uo_begin_leaves_them(self):
        calls = [*calls_later_to("asks"), begin(0, 3, 3), *look()]
        self.assertEqual(ask(*calls)[-16:], LATER_VALUES)


if __name__ == "__main__":
    unittest.main()
