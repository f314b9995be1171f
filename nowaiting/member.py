"""One of the processes that share the values: what it keeps, and how it goes on."""

from nowaiting.codes import DONE, HAS_ANSWER, NOT_NOW, PUTS_RECORD, ROW_IS_FULL, WANTS_PLACE, WRONG_ARGUMENTS
from nowaiting.record import COUNT, WHOSE, record_bytes, record_of_bytes
from nowaiting.store import KEYS, NUMBERS, WHATS, Store

IDLE = "idle"
TELLS = "tells"
ASKS = "asks"
PUTS = "puts"

CELLS = 256


class Member:
    def __init__(self, me, n):
        self.me = me
        self.n = n
        self.state = IDLE
        self.count = 0
        self.place = 0
        self.store = Store()
        self.seen = [0] * n
        self.answer = None
        # Its own record is kept apart from its candidate, which may be another's.
        self.record = None
        self.candidate = None

    def do(self, what, key, v, w):
        if not (0 <= what < WHATS and 0 <= key < KEYS):
            return [WRONG_ARGUMENTS]
        if self.state != IDLE:
            return [NOT_NOW]
        self.count = (self.count + 1) % NUMBERS
        self.record = (self.me + 1, self.count, KEYS * what + key, v, w)
        self.state = TELLS
        return [DONE]

    def show_record(self):
        if self.state == TELLS:
            return [DONE] + record_bytes(self.record)
        if self.state == PUTS:
            return [DONE] + record_bytes(self.candidate)
        return [NOT_NOW]

    def wrote(self):
        if self.state != TELLS:
            return [NOT_NOW]
        return [self.go_on_to_cell()]

    def got(self, row):
        if self.state == ASKS:
            return [self.put(self.helped_first(record_of_bytes(row)))]
        if self.state == PUTS:
            return [self.follow(record_of_bytes(row))]
        return [NOT_NOW]

    def show_place(self):
        return [self.place]

    def show_answer(self):
        if self.answer is None:
            return [NOT_NOW]
        return [DONE, self.answer]

    def show_value(self, key):
        if not 0 <= key < KEYS:
            return [WRONG_ARGUMENTS]
        return [DONE, self.store.value_of(key)]

    def turn(self):
        return self.place % self.n

    def go_on_to_cell(self):
        if self.place == CELLS:
            self.state = IDLE
            return ROW_IS_FULL
        if self.turn() == self.me:
            return self.put(self.record)
        self.state = ASKS
        return WANTS_PLACE + self.turn()

    def helped_first(self, told):
        """Choose what to put: what the process whose turn it is has told, if that is new, else its own record."""
        asked = self.turn()
        if told[WHOSE] == asked + 1 and told[COUNT] > self.seen[asked]:
            return told
        return self.record

    def put(self, candidate):
        self.candidate = candidate
        self.state = PUTS
        return PUTS_RECORD

    def follow(self, standing):
        """Take in what stands in its cell, whoever won it, and leave that cell behind."""
        answer = self.store.carry_out(standing)
        self.place = self.place + 1
        if 1 <= standing[WHOSE] <= self.n:
            # Also where it is lower: counts come round to 0, and none would then be above the greatest.
            self.seen[standing[WHOSE] - 1] = standing[COUNT]
        if not self.is_own(standing):
            return self.go_on_to_cell()
        self.answer = answer
        self.state = IDLE
        return HAS_ANSWER

    def is_own(self, standing):
        return standing[WHOSE] == self.record[WHOSE] and standing[COUNT] == self.record[COUNT]
