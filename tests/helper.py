"""What the tests lean on: calls written as lists, and messages made in another way than the program does."""

import binascii

from farcraft.commands import answers

NAME = 0x2A5
CHANNEL = 37
WINDOW = 10
BEGINNING = [0xEB, 0x90]
TAIL = [0xC5] * 7 + [0x79]
ALL = 65536


# The calls.

def craft(name=NAME, channel=CHANNEL, window=WINDOW):
    return [0, name, channel, window]


def hear(data):
    return [1, len(data), len(data)] + list(data)


def hear_too_much(n):
    return [1, n, 0]


def report():
    return [2]


def give(most=ALL):
    return [3, most]


def ground(name=NAME, channel=CHANNEL, window=WINDOW):
    return [4, name, channel, window]


def send(body):
    return [5, len(body), len(body)] + list(body)


def send_refused(n):
    return [5, n, 0]


def take(most=ALL):
    """tc_next."""
    return [6, most]


def heard(*r):
    return [7, len(r)] + list(r)


def confirm(number, marks=0, channel=CHANNEL):
    """A report that a craft of this channel would give."""
    return heard(1, 4 * channel, marks, number)


def over():
    return [8]


def ask_order(v, most=ALL):
    """tc_order."""
    return [9, v, most]


def ask_past(body, most=ALL):
    """tc_past."""
    return [10, len(body), most, len(body)] + list(body)


def ask_past_refused(n, most=ALL):
    return [10, n, most, 0]


def ask(*calls):
    """The answers to these calls, a list of numbers each."""
    numbers = answers([number for call in calls for number in call])
    split = []
    place = 0
    while place < len(numbers):
        size = numbers[place]
        split.append(numbers[place + 1:place + 1 + size])
        if len(split[-1]) != size or size < 1:
            raise AssertionError("an answer's count is wrong: %r" % (numbers,))
        place += 1 + size
    if len(split) != len(calls):
        raise AssertionError("%d calls, %d answers" % (len(calls), len(split)))
    return split


# Bits, as texts of 0 and 1.

def bits_of(data):
    return "".join(format(byte, "08b") for byte in data)


def bytes_of(bits):
    """Bits that don't fill the last byte are followed by 0."""
    bits += "0" * (-len(bits) % 8)
    return [int(bits[k:k + 8], 2) for k in range(0, len(bits), 8)]


def turned(data, *places):
    """The same bytes, with the bits at these places (0 is the first byte's highest) turned."""
    bits = list(bits_of(data))
    for place in places:
        bits[place] = "1" if bits[place] == "0" else "0"
    return bytes_of("".join(bits))


# Blocks, messages and frames.

def block(seven):
    divisor = "11000101"
    rest = list(bits_of(seven) + "0" * 7)
    for place in range(56):
        if rest[place] == "1":
            for k, bit in enumerate(divisor):
                rest[place + k] = "0" if rest[place + k] == bit else "1"
    check = "".join("1" if bit == "0" else "0" for bit in rest[56:])
    return list(seven) + [int(check + "0", 2)]


def blocks(data):
    data = list(data) + [0x55] * (-len(data) % 7)
    made = []
    for k in range(0, len(data), 7):
        made += block(data[k:k + 7])
    return made


def message(*frames):
    """A message of these, one behind another."""
    data = [byte for one in frames for byte in one]
    return BEGINNING + blocks(data) + TAIL


def with_sum(data):
    total = binascii.crc_hqx(bytes(data), 0xFFFF)
    return list(data) + [total // 256, total % 256]


def head(length, number=0, first=0, name=NAME, channel=CHANNEL):
    return [first + name // 256, name % 256, 4 * channel + (length - 1) // 256, (length - 1) % 256, number]


def frame(number, body, first=0, name=NAME, channel=CHANNEL):
    """A frame in its order, if first isn't told."""
    return with_sum(head(len(body) + 7, number, first, name, channel) + list(body))


def past(body, number=0, **where):
    return frame(number, body, first=32, **where)


def order(body, number=0, **where):
    return frame(number, body, first=48, **where)


UNLOCK = order([0])


def set_number(v):
    return order([0x82, 0, v])


def lock(number=0):
    """The frame that locks a craft whose next number is this, with every window up to 127."""
    return frame((number + 128) % 256, [0xC0])


def hear_frames(*frames):
    return hear(message(*frames))


def packet(data, list_number=0):
    return [0xC0 + list_number] + list(data)


def full(count=8):
    """Frames past the order, of packets that take all the room: [k] on list k."""
    return [past(packet([k], k)) for k in range(count)]


# Answers.

def status(next_number=0, count=0, locked=False, wait=False, again=False, channel=CHANNEL):
    marks = (32 if locked else 0) + (16 if wait else 0) + (8 if again else 0) + 2 * count
    return [0, 1, 4 * channel, marks, next_number]


def given(data, list_number=0):
    return [len(data) + 1, list_number] + list(data)


def carried(one):
    """The answer that is the message of this frame."""
    data = message(one)
    return [len(data)] + data


def bodies_left(*calls):
    """The frames' numbers and bodies that a ground's messages have from here on, when these calls are through."""
    got = ask(*(list(calls) + [take()] * 66))[len(calls):]
    frames = [frame_in(answer[1:]) for answer in got if answer[0] >= 0]
    return [(one[4], one[5:-2]) for one in frames]


def frame_in(data):
    """The bytes of the one frame in this message; nothing is checked."""
    inside = data[2:-8]
    held = [byte for k, byte in enumerate(inside) if k % 8 != 7]
    return held[:(held[2] % 4) * 256 + held[3] + 1]


def packets_after(*calls):
    """All packets that wait when these calls are through, as pairs of list and bytes."""
    got = ask(*(list(calls) + [give()] * 10))[len(calls):]
    return [(answer[1], answer[2:]) for answer in got if answer[0] >= 0]
