"""The sixteen values, and what a record does with them."""

from nowaiting.record import DEED, V, W

WHATS = 4
KEYS = 16

WRITE = 1
ADD = 2
SWAP = 3

# Values and counts are of 64 bits: behind the greatest comes 0.
NUMBERS = 18446744073709551616


class Store:
    def __init__(self):
        self.kept = [0] * KEYS

    def value_of(self, key):
        return self.kept[key]

    def carry_out(self, record):
        """Do what the record does, and give the answer."""
        # A record that came from outside may have any third number; what is above these 64 tells nothing.
        deed = record[DEED] % (WHATS * KEYS)
        what = deed // KEYS
        key = deed % KEYS
        before = self.kept[key]
        if what == WRITE:
            self.kept[key] = record[V]
        if what == ADD:
            self.kept[key] = (before + record[V]) % NUMBERS
            return self.kept[key]
        if what == SWAP and before == record[V]:
            self.kept[key] = record[W]
        return before
