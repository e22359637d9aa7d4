"""The window that the device watches, and the calls that write it."""

SLOTS = 64
SLOT_BYTES = 64
SLOT_WORDS = 8
WORD_BYTES = 8
WORD_LIMIT = 18446744073709551616

BELL_PLACE = 4096
COUNT_PLACE = 4104
SPARE_PLACE = 4112
SPARE_BYTES = 48
WINDOW_BYTES = 4160

BEGIN = 0
SEND = 1
PATCH = 2
FILL = 3
MOVE = 4
SWAP = 5
TAKE = 6
BELL = 7
TOLD = 8

DONE = 0
REFUSED = -1


class UnknownCall(ValueError):
    pass


def is_slot(slot):
    return 0 <= slot < SLOTS


def number_from(content):
    number = 0
    for byte in reversed(content):
        number = number * 256 + byte
    return number


def word_bytes(word):
    return [(word >> (8 * k)) & 255 for k in range(WORD_BYTES)]


def filled_slot(x, step, first):
    content = []
    for k in range(first, first + SLOT_WORDS):
        content.extend(word_bytes((x + step * k) % WORD_LIMIT))
    return tuple(content)


def turned_left(word):
    return (word << 1) % WORD_LIMIT + (word >> 63)


def check_of(content):
    check = 0
    for k in range(SLOT_WORDS):
        start = k * WORD_BYTES
        word = number_from(content[start:start + WORD_BYTES])
        check = (turned_left(check) + word) % WORD_LIMIT
    return check


# A slot is kept as one tuple and only ever replaced whole, so that the device,
# whenever it looks, finds the old order or the new one and never half of one.
class Window:
    def __init__(self):
        self.slots = [(0,) * SLOT_BYTES for k in range(SLOTS)]
        self.bell = 0
        self.count = 0
        self.spare = (0,) * SPARE_BYTES

    def begin(self, places, given):
        content = [0] * WINDOW_BYTES
        for place, byte in zip(places, given, strict=True):
            content[place] = byte
        for slot in range(SLOTS):
            start = slot * SLOT_BYTES
            self.slots[slot] = tuple(content[start:start + SLOT_BYTES])
        self.bell = number_from(content[BELL_PLACE:COUNT_PLACE])
        self.count = number_from(content[COUNT_PLACE:SPARE_PLACE])
        self.spare = tuple(content[SPARE_PLACE:])
        return [DONE]

    def send(self, slot, message):
        if not is_slot(slot):
            return [REFUSED]
        self.slots[slot] = tuple(message)
        self.count = (self.count + 1) % WORD_LIMIT
        # The bell comes last: it sends the device to a slot that must be ready.
        self.bell = slot + 1
        return [DONE]

    # No length below 0 is asked about: it is that of the row itself.
    def patch(self, slot, off, given):
        end = off + len(given)
        if not is_slot(slot) or end > SLOT_BYTES:
            return [REFUSED]
        held = self.slots[slot]
        self.slots[slot] = held[:off] + tuple(given) + held[end:]
        return [DONE]

    def fill(self, slot, n, x, step):
        if n < 0 or slot + n > SLOTS:
            return [REFUSED]
        for k in range(n):
            self.slots[slot + k] = filled_slot(x, step, k * SLOT_WORDS)
        return [DONE]

    def move(self, source, to, n):
        if n < 0 or source + n > SLOTS or to + n > SLOTS:
            return [REFUSED]
        # Held apart, as the two runs of slots may overlap.
        held = self.slots[source:source + n]
        for k in range(n):
            self.slots[to + k] = held[k]
        return [DONE]

    def swap(self, i, j):
        if not is_slot(i) or not is_slot(j):
            return [REFUSED]
        held = self.slots[i]
        self.slots[i] = self.slots[j]
        self.slots[j] = held
        return [DONE]

    def take(self, slot):
        if not is_slot(slot):
            return [REFUSED]
        held = self.slots[slot]
        self.slots[slot] = (0,) * SLOT_BYTES
        return [DONE] + list(held) + word_bytes(check_of(held))

    # Not called bell, as the number that it writes has that name.
    def ring(self, value):
        self.bell = value
        return [DONE]

    def whole(self):
        content = []
        for held in self.slots:
            content.extend(held)
        return content + word_bytes(self.bell) + word_bytes(self.count) + list(self.spare)

    def told(self):
        found = []
        for place, byte in enumerate(self.whole()):
            if byte != 0:
                found.extend([place, byte])
        return [len(found) // 2] + found


# Goes through the list by a place of its own, so that the list stays as it is.
class Reader:
    def __init__(self, calls):
        self.calls = calls
        self.place = 0

    def at_end(self):
        return self.place == len(self.calls)

    def number(self):
        found = self.calls[self.place]
        self.place = self.place + 1
        return found

    def row(self):
        length = self.number()
        found = []
        for k in range(length):
            found.append(self.number())
        return found


def answer_next(window, reader):
    call = reader.number()
    if call == BEGIN:
        places = reader.row()
        return window.begin(places, reader.row())
    if call == SEND:
        slot = reader.number()
        return window.send(slot, reader.row())
    if call == PATCH:
        slot = reader.number()
        off = reader.number()
        return window.patch(slot, off, reader.row())
    if call == FILL:
        slot = reader.number()
        n = reader.number()
        x = reader.number()
        return window.fill(slot, n, x, reader.number())
    if call == MOVE:
        source = reader.number()
        to = reader.number()
        return window.move(source, to, reader.number())
    if call == SWAP:
        i = reader.number()
        return window.swap(i, reader.number())
    if call == TAKE:
        return window.take(reader.number())
    if call == BELL:
        return window.ring(reader.number())
    if call == TOLD:
        return window.told()
    raise UnknownCall(f"no call has the number {call}")


def answers_in(window, calls):
    reader = Reader(calls)
    found = []
    while not reader.at_end():
        answer = answer_next(window, reader)
        found.append(len(answer))
        found.extend(answer)
    return found


def answers(calls):
    return answers_in(Window(), calls)
