"""Reading a circuit's text, a list of bytes, into the gates that it does."""

from exactqubits.gates import UNDOING, undone

MOST_BYTES = 4096
MOST_GATES = 2000
MOST_TIMES = 1000
MOST_BRACKETS = 16

# What stands in the place of a byte behind the text's last one.
END = -1

SPACE = 32
LINE_END = 10
QUOTE = 39
LEFT = 40
RIGHT = 41
COMMA = 44
DIGIT_0 = 48
DIGIT_9 = 57
SEMICOLON = 59
QUESTION = 63
CARET = 94
TILDE = 126

# The gates of the letters x, y, z, h, s and t.
LETTERS = {120: 0, 121: 1, 122: 2, 104: 3, 115: 4, 116: 6}


class Fault(Exception):
    """The text is not a circuit; place is the fault's place in it."""

    def __init__(self, place):
        Exception.__init__(self)
        self.place = place


class Block:
    """What one bracket, or the whole text, does: how many gates, and, while they are few enough, which."""

    def __init__(self, backwards):
        self.backwards = backwards
        self.total = 0
        self.gates = []

    def take(self, total, gates):
        self.total += total
        # A count beyond what may be done can be far too large to write out.
        if self.total <= MOST_GATES:
            self.gates.extend(gates)

    def hand_over(self, times, outer):
        """Give the block around this one what this one does, so many times."""
        total = self.total * times
        if total == 0 or total > MOST_GATES:
            outer.take(total, [])
        elif self.backwards:
            outer.take(total, undone(self.gates) * times)
        else:
            outer.take(total, self.gates * times)


class Reader:
    """A place in the text of a circuit of so many qubits."""

    def __init__(self, text, qubits):
        self.text = text
        self.qubits = qubits
        self.at = 0

    def byte_here(self):
        return self.text[self.at] if self.at < len(self.text) else END

    def peek(self):
        """The byte that comes next when blanks are passed over."""
        while self.byte_here() == SPACE or self.byte_here() == LINE_END:
            self.at += 1
        return self.byte_here()

    def accept(self, byte):
        """Whether that byte comes next; if so it is read."""
        if self.peek() != byte:
            return False
        self.at += 1
        return True

    def digit_here(self):
        return DIGIT_0 <= self.byte_here() <= DIGIT_9

    def number(self, most, used):
        """Read a number that is at most that, and none of those used before."""
        self.peek()
        start = self.at
        value = 0
        while self.digit_here():
            value = value * 10 + self.byte_here() - DIGIT_0
            self.at += 1
        digits = self.at - start
        if digits == 0 or (digits > 1 and self.text[start] == DIGIT_0):
            raise Fault(start)
        if value > most or value in used:
            raise Fault(start)
        return value

    def gate(self):
        """Read a gate as (g, q, controls)."""
        g = LETTERS[self.peek()]
        self.at += 1
        if self.accept(QUOTE):
            g = UNDOING[g]
        used = [self.number(self.qubits - 1, [])]
        controls = 0
        behind = QUESTION
        while self.accept(behind):
            control = self.number(self.qubits - 1, used)
            used.append(control)
            controls |= 1 << control
            behind = COMMA
        return (g, used[0], controls)


def circuit_read(text, qubits):
    """The block of the whole text; Fault if it isn't a circuit."""
    reader = Reader(text, qubits)
    blocks = [Block(False)]
    reading = True
    while reading:
        # A block's inside begins like any item, so what is behind an item waits until the block is closed.
        if not block_begun(reader, blocks):
            if reader.peek() in LETTERS:
                blocks[-1].take(1, [reader.gate()])
            close_blocks(reader, blocks)
            reading = reader.accept(SEMICOLON)
    if reader.peek() != END or len(blocks) > 1:
        raise Fault(reader.at)
    return blocks[0]


def block_begun(reader, blocks):
    """Whether a block begins next; if so its bracket is read."""
    backwards = reader.accept(TILDE)
    if reader.peek() != LEFT:
        if backwards:
            raise Fault(reader.at)
        return False
    if len(blocks) > MOST_BRACKETS:
        raise Fault(reader.at)
    reader.accept(LEFT)
    blocks.append(Block(backwards))
    return True


def close_blocks(reader, blocks):
    while len(blocks) > 1 and reader.accept(RIGHT):
        times = reader.number(MOST_TIMES, []) if reader.accept(CARET) else 1
        inner = blocks.pop()
        inner.hand_over(times, blocks[-1])
