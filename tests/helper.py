"""Calls as the interface lays them out, and answers taken apart again."""

import unittest

from nowaiting.process import answer_call, answers

LEAST = -2147483648
GREATEST = 2147483647
GREATEST_64 = 18446744073709551615

OK = [0]
WRONG = [-2]
NOT_NOW = [-4]
ANSWERED = [32]
FULL = [33]
PUTS = [64]

READ, WRITE, ADD, SWAP = range(4)


def begin(which, me, n):
    return [0, which, me, n]


def do(which, what=0, key=0, v=0, w=0):
    return [1, which, what, key, v, w]


def record(which):
    return [2, which]


def wrote(which):
    return [3, which]


def got(which, numbers):
    """Lay out uo_got with a record that is given by its five numbers."""
    return [4, which, 40] + bytes_of(numbers)


def place(which):
    return [5, which]


def answer(which):
    return [6, which]


def value(which, key):
    return [7, which, key]


def bytes_of(numbers):
    return [byte for number in numbers for byte in number.to_bytes(8, "little")]


def numbers_of(row):
    return tuple(int.from_bytes(bytes(row[at:at + 8]), "little") for at in range(0, 40, 8))


NOBODYS = (0, 0, 0, 0, 0)


def laid_out(calls):
    return [number for call in calls for number in call]


def taken_apart(row):
    parts = []
    at = 0
    while at < len(row):
        end = at + 1 + row[at]
        if row[at] < 1 or end > len(row):
            raise ValueError("no answer of that many numbers at %d of %r" % (at, row))
        parts.append(row[at + 1:end])
        at = end
    return parts


def ask(*calls):
    """Give one list of numbers for each of the calls."""
    row = laid_out(calls)
    if len(calls) > 400 or len(row) > 16000:
        raise ValueError("no list may have %d calls and %d numbers" % (len(calls), len(row)))
    return taken_apart(answers(row))


def ask_within(*calls):
    """Give the same as ask, from within the program, where calls may be more than one list has."""
    members = {}
    return [answer_call(members, call) for call in calls]


def shown_numbers(numbers):
    """Give what uo_record is to answer for a record of these five numbers."""
    return [0] + bytes_of(numbers)


def shown(me, count, what, key, v, w):
    """Give what uo_record is to answer for such a record."""
    return shown_numbers((me + 1, count, 16 * what + key, v, w))


class OneByOne(unittest.TestCase):
    def assert_each_equal(self, given, wanted):
        """Compare answer by answer: unittest takes very long to tell long lists apart."""
        self.assertEqual(len(given), len(wanted))
        for at in range(len(wanted)):
            self.assertEqual(given[at], wanted[at], "answer %d" % at)


# How a process comes to each of its four states, and what the calls answer there;
# what it does is always an add of 7 to key 5.
WHAT, KEY, V, W = 2, 5, 7, 9


def calls_to(state, which=0):
    """Give calls that bring an object to a state: process 0 of 3 puts at cell 0, process 2 asks."""
    me = {"idle": 0, "tells": 0, "asks": 2, "puts": 0}[state]
    calls = [begin(which, me, 3)]
    if state != "idle":
        calls.append(do(which, WHAT, KEY, V, W))
    if state in ("asks", "puts"):
        calls.append(wrote(which))
    return calls


def calls_later_to(state, which=0):
    """Give calls that bring process 1 of 3 to a state once it has answers and values, and cells lie behind it."""
    calls = [begin(which, 1, 3), do(which, ADD, 4, 11), wrote(which), got(which, NOBODYS)]
    # Cell 0 goes to process 2, cell 1 is its own turn; it is idle then, at cell 2.
    calls += [got(which, (3, 6, 16 * WRITE + 9, 21, 0)), got(which, (2, 1, 16 * ADD + 4, 11, 0))]
    if state != "idle":
        calls.append(do(which, WHAT, KEY, V, W))
    if state in ("asks", "puts"):
        calls.append(wrote(which))
    if state == "puts":
        calls.append(got(which, (3, 7, 16 * SWAP + 9, 21, 22)))
    return calls


def look(which=0):
    """Give the calls that show all of a process and change nothing."""
    return [record(which), place(which), answer(which)] + [value(which, key) for key in range(16)]


def go_on(which=0):
    """Give calls that take a process from each state on, so that what it keeps unseen comes to light."""
    told = (3, 7, 16 * SWAP + 9, 21, 22)
    calls = [do(which, 1, 2, 3, 4), record(which), wrote(which), record(which)]
    return calls + [call for turn in range(4) for call in (got(which, told), record(which), place(which))] + look(which)


def record_in(state):
    if state in ("idle", "asks"):
        return NOT_NOW
    return shown(0, 1, WHAT, KEY, V, W)


def wrote_in(state):
    return PUTS if state == "tells" else NOT_NOW


def do_in(state):
    return OK if state == "idle" else NOT_NOW


STATES = ("idle", "tells", "asks", "puts")
