"""One of the processes that share the values: what it keeps, and how it goes on."""

from nowaiting.codes import DONE, NOT_NOW, PUTS_RECORD, ROW_IS_FULL, WANTS_PLACE, WRONG_ARGUMENTS
from nowaiting.record import record_bytes

IDLE = "idle"
TELLS = "tells"
ASKS = "asks"
PUTS = "puts"

CELLS = 256
WHATS = 4
KEYS = 16
# Counts are of 64 bits: behind the greatest comes 0.
COUNTS = 18446744073709551616


class Member:
    def __init__(self, me, n):
        self.me = me
        self.n = n
        self.state = IDLE
        self.count = 0
        self.place = 0
        # Its own record is kept apart from its candidate, which may be another's.
        self.record = None
        self.candidate = None

    def do(self, what, key, v, w):
        if not (0 <= what < WHATS and 0 <= key < KEYS):
            return [WRONG_ARGUMENTS]
        if self.state != IDLE:
            return [NOT_NOW]
        self.count = (self.count + 1) % COUNTS
        self.record = (self.me + 1, self.count, KEYS * what + key, v, w)
        self.state = TELLS
        return [DONE]

    def show_record(self):
        if self.state == TELLS:
            return [DONE] + record_bytes(self.record)
        if self.state == PUTS:
            return [DONE] + record_bytes(self.candidate)
        return [NOT_NOW]

    def wrote(self):
        if self.state != TELLS:
            return [NOT_NOW]
        return [self.go_on_to_cell()]

    def go_on_to_cell(self):
        if self.place == CELLS:
            self.state = IDLE
            return ROW_IS_FULL
        turn = self.place % self.n
        if turn == self.me:
            return self.put(self.record)
        self.state = ASKS
        return WANTS_PLACE + turn

    def put(self, candidate):
        self.candidate = candidate
        self.state = PUTS
        return PUTS_RECORD
