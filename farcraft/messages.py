"""Messages on the noisy line: how one is made, where one begins, its blocks, and where it ends."""

BEGINNING = 0xEB90
BEGINNING_BITS = 16
BLOCK_BITS = 64
CHECKED_BITS = 63
CHECK_BITS = 7
CHECK_MASK = 127
# x^7 + x^6 + x^2 + 1
DIVISOR = 0xC5
MOST_MESSAGE_BYTES = 4096
BYTES_IN_BLOCK = 7
FILLING = 0x55
TAIL = (0xC5, 0xC5, 0xC5, 0xC5, 0xC5, 0xC5, 0xC5, 0x79)


def left_over(word):
    """What a word of 63 bits leaves over by the divisor."""
    rest = word
    for place in range(CHECKED_BITS - 1, CHECK_BITS - 1, -1):
        if ((rest >> place) & 1) == 1:
            rest = rest ^ (DIVISOR << (place - CHECK_BITS))
    return rest


def block_of(seven):
    """These seven bytes and the one behind them."""
    word = 0
    for byte in seven:
        word = (word << 8) | byte
    rest = left_over(word << CHECK_BITS)
    return seven + [(rest ^ CHECK_MASK) << 1]


def message_of(data):
    """The message that carries these bytes."""
    message = [BEGINNING >> 8, BEGINNING & 255]
    for start in range(0, len(data), BYTES_IN_BLOCK):
        seven = data[start:start + BYTES_IN_BLOCK]
        filling = [FILLING] * (BYTES_IN_BLOCK - len(seven))
        message.extend(block_of(seven + filling))
    return message + list(TAIL)


def turned_place(rest):
    """The place, from the lowest, of the one bit that leaves this rest when turned; -1 if there's none."""
    power = 1
    for place in range(CHECKED_BITS):
        if power == rest:
            return place
        power = power << 1
        if power > CHECK_MASK:
            power = power ^ DIVISOR
    return -1


def block_bytes(block):
    """The seven bytes of a block of 64 bits, mended if need be; an empty list if it's beyond that."""
    # With its seven check bits turned back, a right word leaves nothing over.
    word = (block >> 1) ^ CHECK_MASK
    rest = left_over(word)
    if rest != 0:
        place = turned_place(rest)
        if place < 0:
            return []
        word = word ^ (1 << place)
    return [(word >> shift) & 255 for shift in range(CHECKED_BITS - 8, CHECK_BITS - 1, -8)]


def is_beginning(bits):
    """Whether at most one of these sixteen bits isn't as a message's beginning has it."""
    wrong = bits ^ BEGINNING
    return (wrong & (wrong - 1)) == 0


class Listener:
    """The ear of a craft: it looks for a message's beginning, or is within a message."""

    def __init__(self):
        self.in_message = False
        # Only bits that came since it began to look, or since the last block.
        self.bits = 0
        self.bits_held = 0
        self.message = []

    def hear(self, data):
        """Hears these bytes; a list of the messages that ended by them, each a list of bytes."""
        ended = []
        for byte in data:
            for place in range(7, -1, -1):
                bit = (byte >> place) & 1
                if self.in_message:
                    self.fill_block(bit, ended)
                else:
                    self.look(bit)
        return ended

    def look(self, bit):
        self.bits = ((self.bits << 1) | bit) & 0xFFFF
        self.bits_held = self.bits_held + 1
        if self.bits_held >= BEGINNING_BITS and is_beginning(self.bits):
            self.start_anew(True)

    def fill_block(self, bit, ended):
        self.bits = (self.bits << 1) | bit
        self.bits_held = self.bits_held + 1
        if self.bits_held == BLOCK_BITS:
            self.take_block(ended)

    def take_block(self, ended):
        seven = block_bytes(self.bits)
        self.bits = 0
        self.bits_held = 0
        if seven == []:
            ended.append(self.message)
            self.start_anew(False)
        elif len(self.message) + len(seven) > MOST_MESSAGE_BYTES:
            self.start_anew(False)
        else:
            self.message.extend(seven)

    def start_anew(self, in_message):
        self.in_message = in_message
        self.bits = 0
        self.bits_held = 0
        self.message = []
