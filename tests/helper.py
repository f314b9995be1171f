"""Calls as the interface lays them out, and answers taken apart again."""

from nowaiting.process import answers

LEAST = -2147483648
GREATEST = 2147483647
GREATEST_64 = 18446744073709551615

OK = [0]
WRONG = [-2]
NOT_NOW = [-4]
PUTS = [64]


def begin(which, me, n):
    return [0, which, me, n]


def do(which, what=0, key=0, v=0, w=0):
    return [1, which, what, key, v, w]


def record(which):
    return [2, which]


def wrote(which):
    return [3, which]


def laid_out(calls):
    return [number for call in calls for number in call]


def taken_apart(row):
    parts = []
    at = 0
    while at < len(row):
        end = at + 1 + row[at]
        if row[at] < 1 or end > len(row):
            raise ValueError("no answer of that many numbers at %d of %r" % (at, row))
        parts.append(row[at + 1:end])
        at = end
    return parts


def ask(*calls):
    """Give one list of numbers for each of the calls."""
    return taken_apart(answers(laid_out(calls)))


def shown(me, count, what, key, v, w):
    """Give what uo_record is to answer for such a record."""
    numbers = (me + 1, count, 16 * what + key, v, w)
    return [0] + [byte for number in numbers for byte in number.to_bytes(8, "little")]


# How a process comes to each of its four states, and what uo_record and uo_wrote answer there;
# what it does is always an add of 7 to key 5.
WHAT, KEY, V, W = 2, 5, 7, 9


def calls_to(state, which=0):
    """Give calls that bring an object to a state: process 0 of 3 puts at cell 0, process 2 asks."""
    me = {"idle": 0, "tells": 0, "asks": 2, "puts": 0}[state]
    calls = [begin(which, me, 3)]
    if state != "idle":
        calls.append(do(which, WHAT, KEY, V, W))
    if state in ("asks", "puts"):
        calls.append(wrote(which))
    return calls


def record_in(state):
    if state in ("idle", "asks"):
        return NOT_NOW
    return shown(0, 1, WHAT, KEY, V, W)


def wrote_in(state):
    return PUTS if state == "tells" else NOT_NOW


def do_in(state):
    return OK if state == "idle" else NOT_NOW


STATES = ("idle", "tells", "asks", "puts")
