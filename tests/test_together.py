"""Several processes over one row: what all the promises come to, with the caller's part played here."""

import random
import unittest

from nowaiting.process import answer_call
from tests.helper import (
    ANSWERED, FULL, NOBODYS, OneByOne, answer, ask, begin, do, got, numbers_of, place, record, value, wrote,
)


def carry_out(values, third, v, w):
    """Do to the values what a record does, in words of its own: the answer is given back."""
    key = third % 16
    old = values[key]
    new = {0: old, 1: v, 2: (old + v) % 2 ** 64, 3: w if old == v else old}[third // 16]
    values[key] = new
    return new if third // 16 == 2 else old


class Together:
    """Processes as objects, their places, and the row; what each wants is drawn, from a fixed seed."""

    def __init__(self, n, draw):
        self.n = n
        self.draw = draw
        self.members = {}
        self.calls = []
        self.given = []
        self.places = [NOBODYS] * n
        self.row = []
        self.told_at = {}
        self.answers = {}
        self.counts = [0] * n
        for me in range(n):
            self.ask(begin(me, me, n))
        self.next = ["do"] * n

    def ask(self, call):
        self.calls.append(call)
        self.given.append(answer_call(self.members, call))
        return self.given[-1]

    def step(self, me):
        if self.next[me] == "do":
            draw = self.draw
            self.counts[me] += 1
            self.ask(do(me, draw.randrange(4), draw.randrange(2), draw.randrange(3), draw.randrange(3)))
            self.next[me] = "tell"
        elif self.next[me] == "tell":
            self.places[me] = numbers_of(self.ask(record(me))[1:])
            self.told_at[me + 1, self.counts[me]] = len(self.row)
            self.follow(me, self.ask(wrote(me)))
        elif self.next[me] == "put":
            cell = self.ask(place(me))[0]
            candidate = numbers_of(self.ask(record(me))[1:])
            if cell == len(self.row):
                self.row.append(candidate)
            self.follow(me, self.ask(got(me, self.row[cell])))
        else:
            self.follow(me, self.ask(got(me, self.places[self.next[me]])))

    def follow(self, me, answered):
        if answered == ANSWERED:
            self.answers[me + 1, self.counts[me]] = self.ask(answer(me))[1]
        if answered in (ANSWERED, FULL):
            self.next[me] = "do"
        elif answered == [64]:
            self.next[me] = "put"
        else:
            self.next[me] = answered[0] - 16


def run(n, seed, steps, greedy=False):
    """Let processes step in a drawn order; a greedy process 0 steps far oftener than the others."""
    draw = random.Random(seed)
    together = Together(n, draw)
    for _ in range(steps):
        me = 0 if greedy and draw.randrange(10) else draw.randrange(n)
        together.step(me)
    return together


class ManyProcesses(OneByOne):
    def on_runs(self, steps, check):
        for n in range(2, 9):
            for seed in range(6):
                for greedy in (False, True):
                    with self.subTest(n=n, seed=seed, greedy=greedy):
                        check(run(n, seed, steps, greedy))

    def test_each_wish_stands_once_and_in_order(self):
        def check(together):
            stands = [(numbers[0], numbers[1]) for numbers in together.row]
            self.assertEqual(len(stands), len(set(stands)))
            for me in range(together.n):
                counts = [count for whose, count in stands if whose == me + 1]
                self.assertEqual(counts, list(range(1, len(counts) + 1)))

        self.on_runs(400, check)

    def test_each_answer_is_as_if_the_row_was_done_one_by_one(self):
        def check(together):
            values = [0] * 16
            one_by_one = {}
            for whose, count, third, v, w in together.row:
                one_by_one[whose, count] = carry_out(values, third, v, w)
            self.assertTrue(together.answers)
            for wish, given in together.answers.items():
                self.assertEqual(given, one_by_one[wish])

        self.on_runs(400, check)

    def test_each_has_the_values_of_the_cells_that_it_has_seen(self):
        def check(together):
            for me in range(together.n):
                cell = together.ask(place(me))[0]
                values = [0] * 16
                for whose, count, third, v, w in together.row[:cell]:
                    carry_out(values, third, v, w)
                self.assertEqual([together.ask(value(me, key)) for key in range(16)], [[0, one] for one in values])

        self.on_runs(400, check)

    def test_nobody_is_passed_over_for_long(self):
        """A cell of its own turn may be asked about just ahead of its telling; the next such one is its own."""

        def check(together):
            stands_at = {(numbers[0], numbers[1]): cell for cell, numbers in enumerate(together.row)}
            for wish, told in together.told_at.items():
                cell = stands_at.get(wish, len(together.row))
                self.assertLessEqual(cell - told, together.n)

        self.on_runs(400, check)

    def test_to_the_end_of_the_row(self):
        for n in (2, 3, 8):
            with self.subTest(n=n):
                together = run(n, 1, 12000)
                self.assertEqual(len(together.row), 256)
                self.assertIn(FULL, together.given)
                self.assertEqual([together.ask(place(me)) for me in range(n)], [[256]] * n)

    def test_in_one_list_the_same_is_answered(self):
        def check(together):
            self.assert_each_equal(ask(*together.calls), together.given)

        self.on_runs(120, check)


if __name__ == "__main__":
    unittest.main()
