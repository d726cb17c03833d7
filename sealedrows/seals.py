"""Answers a list of calls about one key, with ChaCha20 and Poly1305 as RFC 8439 has them."""

CALL_KEY = 0
CALL_BLOCK = 1
CALL_STREAM = 2
CALL_MARK = 3
CALL_SEAL = 4
CALL_OPEN = 5
CALL_DROPS = 6

REFUSED = -2
MOST_BYTES = 65536
MOST_DROPS = 16

WORD_BYTES = 4
LENGTH_BYTES = 8
ONCE_BYTES = 12
MARK_BYTES = 16
KEY_BYTES = 32
BLOCK_BYTES = 64

# A sealed message's first block, that of counter 0, goes into the key of its mark and never into the message.
MARK_COUNTER = 0
MESSAGE_COUNTER = 1

# The largest number of 32 bits: what goes beyond it is cut off by "and".
WORD_MASK = 0xffffffff

# "expand 32-byte k" as four words, the first row of every block's state.
CONSTANTS = (0x61707865, 0x3320646e, 0x79622d32, 0x6b206574)

DOUBLE_ROUNDS = 10

# Where the words of each quarter round stand: four columns, then four diagonals.
QUARTERS = (
    (0, 4, 8, 12),
    (1, 5, 9, 13),
    (2, 6, 10, 14),
    (3, 7, 11, 15),
    (0, 5, 10, 15),
    (1, 6, 11, 12),
    (2, 7, 8, 13),
    (3, 4, 9, 14),
)

# Poly1305 reckons modulo the prime 2^130 - 5; its factor keeps only these bits of the key.
PRIME = 0x3fffffffffffffffffffffffffffffffb
FACTOR_MASK = 0x0ffffffc0ffffffc0ffffffc0fffffff


class UnknownCall(ValueError):
    pass


# Both ways the least byte stands first, as everywhere in RFC 8439.
def number_from(row):
    total = 0
    for byte in reversed(row):
        total = (total << 8) | byte
    return total


def bytes_from(number, many):
    return [(number >> (8 * place)) & 255 for place in range(many)]


def words_from(row):
    return [number_from(row[start:start + WORD_BYTES]) for start in range(0, len(row), WORD_BYTES)]


def rotate_left(word, bits):
    return ((word << bits) | (word >> (32 - bits))) & WORD_MASK


def mix_pair(state, target, added, turned, bits):
    state[target] = (state[target] + state[added]) & WORD_MASK
    state[turned] = rotate_left(state[turned] ^ state[target], bits)


def quarter_round(state, a, b, c, d):
    mix_pair(state, a, b, d, 16)
    mix_pair(state, c, d, b, 12)
    mix_pair(state, a, b, d, 8)
    mix_pair(state, c, d, b, 7)


def mixed_state(first):
    state = list(first)
    for double_round in range(DOUBLE_ROUNDS):
        for a, b, c, d in QUARTERS:
            quarter_round(state, a, b, c, d)
    return state


def make_block(key, once, counter):
    first = list(CONSTANTS) + words_from(key) + [counter] + words_from(once)
    made = []
    for before, after in zip(first, mixed_state(first)):
        made.extend(bytes_from((before + after) & WORD_MASK, WORD_BYTES))
    return made


def make_stream(key, once, counter, data):
    made = []
    for start in range(0, len(data), BLOCK_BYTES):
        current = (counter + start // BLOCK_BYTES) & WORD_MASK
        part = data[start:start + BLOCK_BYTES]
        made.extend([ours ^ theirs for ours, theirs in zip(part, make_block(key, once, current))])
    return made


def make_mark(key, row):
    factor = number_from(key[:MARK_BYTES]) & FACTOR_MASK
    total = 0
    for start in range(0, len(row), MARK_BYTES):
        # The 1 behind a part tells a short part from one that ends in zeros.
        part = row[start:start + MARK_BYTES] + [1]
        total = ((total + number_from(part)) * factor) % PRIME
    return bytes_from(total + number_from(key[MARK_BYTES:]), MARK_BYTES)


def make_drops(key, once, counters):
    made = []
    for place, counter in enumerate(counters):
        start = place * ONCE_BYTES
        made.extend(make_block(key, once[start:start + ONCE_BYTES], counter))
    return made


def fill_up(row):
    beyond = len(row) % MARK_BYTES
    if beyond == 0:
        return row
    return row + [0] * (MARK_BYTES - beyond)


def make_seal_mark(key, once, seen, sealed):
    mark_key = make_block(key, once, MARK_COUNTER)[:KEY_BYTES]
    # The lengths tell where seen ends and the sealed bytes begin, which the filled up rows alone don't.
    lengths = bytes_from(len(seen), LENGTH_BYTES) + bytes_from(len(sealed), LENGTH_BYTES)
    return make_mark(mark_key, fill_up(seen) + fill_up(sealed) + lengths)


class Reader:
    def __init__(self, calls):
        self.calls = calls
        self.place = 0

    def at_end(self):
        return self.place >= len(self.calls)

    def read_number(self):
        number = self.calls[self.place]
        self.place = self.place + 1
        return number

    def read_row(self):
        many = self.read_number()
        start = self.place
        self.place = start + many
        return self.calls[start:self.place]


class Parcel:
    def __init__(self, reader):
        self.s = reader.read_number()
        self.n = reader.read_number()
        self.once = reader.read_row()
        self.seen = reader.read_row()
        self.data = reader.read_row()

    def is_too_long(self):
        return self.s > MOST_BYTES or self.n > MOST_BYTES


# A refused call's rows are read too: the next call stands behind them.
class Sealer:
    def __init__(self):
        self.key = []

    def take_key(self, reader):
        self.key = reader.read_row()
        return [0]

    def answer_block(self, reader):
        counter = reader.read_number()
        once = reader.read_row()
        return [0] + make_block(self.key, once, counter)

    def answer_stream(self, reader):
        counter = reader.read_number()
        n = reader.read_number()
        once = reader.read_row()
        data = reader.read_row()
        if n > MOST_BYTES:
            return [REFUSED]
        return [0] + make_stream(self.key, once, counter, data)

    def answer_mark(self, reader):
        n = reader.read_number()
        key = reader.read_row()
        row = reader.read_row()
        if n > MOST_BYTES:
            return [REFUSED]
        return [0] + make_mark(key, row)

    def answer_seal(self, reader):
        parcel = Parcel(reader)
        if parcel.is_too_long():
            return [REFUSED]
        sealed = make_stream(self.key, parcel.once, MESSAGE_COUNTER, parcel.data)
        return [0] + sealed + make_seal_mark(self.key, parcel.once, parcel.seen, sealed)

    def answer_open(self, reader):
        parcel = Parcel(reader)
        if parcel.is_too_long():
            return [REFUSED]
        sealed = parcel.data[:parcel.n]
        mark = parcel.data[parcel.n:]
        if mark != make_seal_mark(self.key, parcel.once, parcel.seen, sealed):
            return [0]
        return [1] + make_stream(self.key, parcel.once, MESSAGE_COUNTER, sealed)

    def answer_drops(self, reader):
        n = reader.read_number()
        once = reader.read_row()
        counters = reader.read_row()
        if n < 1 or n > MOST_DROPS:
            return [REFUSED]
        return [0] + make_drops(self.key, once, counters)

    def answer_call(self, reader):
        call = reader.read_number()
        if call == CALL_KEY:
            return self.take_key(reader)
        if call == CALL_BLOCK:
            return self.answer_block(reader)
        if call == CALL_STREAM:
            return self.answer_stream(reader)
        if call == CALL_MARK:
            return self.answer_mark(reader)
        if call == CALL_SEAL:
            return self.answer_seal(reader)
        if call == CALL_OPEN:
            return self.answer_open(reader)
        if call == CALL_DROPS:
            return self.answer_drops(reader)
        raise UnknownCall(f"no call has the number {call}")


def answers(calls):
    reader = Reader(calls)
    sealer = Sealer()
    answered = []
    while not reader.at_end():
        answer = sealer.answer_call(reader)
        answered.append(len(answer))
        answered.extend(answer)
    return answered
