"""Reading a row of bytes from the front."""

from onevalues.faults import ENDS_TOO_SOON, Fault, WRONG_SIGN, WRONG_VARYING

MOST_VARYING_BYTES = 5
HIGHEST_VARYING = 4294967295


# The place is that of the first byte that has not been read.
class Reader:
    def __init__(self, row):
        self.row = row
        self.place = 0

    # The byte that is read next.
    def see_byte(self):
        if self.place >= len(self.row):
            raise Fault(ENDS_TOO_SOON, len(self.row))
        return self.row[self.place]

    def read_byte(self):
        byte = self.see_byte()
        self.place += 1
        return byte

    # For texts, where one sign alone may stand.
    def read_sign(self, sign):
        if self.see_byte() != sign:
            raise Fault(WRONG_SIGN, self.place)
        self.place += 1

    # That there are too few is told before any of them is looked at, so they are passed at once.
    def pass_bytes(self, how_many):
        if how_many > len(self.row) - self.place:
            raise Fault(ENDS_TOO_SOON, len(self.row))
        first = self.place
        self.place += how_many
        return first

    def read_varying(self):
        first = self.place
        amount = 0
        weight = 1
        for before in range(MOST_VARYING_BYTES):
            byte = self.read_byte()
            amount += byte % 128 * weight
            weight *= 128
            if byte < 128:
                if (byte == 0 and before > 0) or amount > HIGHEST_VARYING:
                    raise Fault(WRONG_VARYING, first)
                return amount
        raise Fault(WRONG_VARYING, first)
