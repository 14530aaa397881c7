"""The calls on one object, read from a list of whole numbers and answered by another."""

from farcraft.craft import Craft
from farcraft.ground import Ground

DONE = 0
NOT_NOW = -1
OUT_OF_RANGE = -2
NOT_BELIEVED = -3
TOO_LONG = -5
OTHER_KIND = -9

MOST_NAME = 1023
MOST_CHANNEL = 63
MOST_WINDOW = 127
MOST_HEARD = 65536
MOST_BODY = 1017
MOST_ASKED = 65536
MOST_ORDER = 256


class Line:
    """A line's calls, how far they are read, and the one object they are about."""

    def __init__(self, calls):
        self.calls = calls
        self.place = 0
        # At most one of the two is there.
        self.craft = None
        self.ground = None

    def is_read(self):
        return self.place == len(self.calls)

    def take_number(self):
        number = self.calls[self.place]
        self.place = self.place + 1
        return number

    def take_row(self):
        start = self.place + 1
        self.place = start + self.calls[self.place]
        return self.calls[start:self.place]


def in_ranges(name, channel, window):
    return 0 <= name <= MOST_NAME and 0 <= channel <= MOST_CHANNEL and 1 <= window <= MOST_WINDOW


def is_body_size(n):
    return 1 <= n <= MOST_BODY


def with_count(data):
    return [len(data)] + data


def call_craft(line):
    name = line.take_number()
    channel = line.take_number()
    window = line.take_number()
    if not in_ranges(name, channel, window):
        return [OUT_OF_RANGE]
    line.craft = Craft(name, channel, window)
    line.ground = None
    return [DONE]


def call_hear(line):
    n = line.take_number()
    data = line.take_row()
    if line.craft is None:
        return [OTHER_KIND]
    if n > MOST_HEARD:
        return [OUT_OF_RANGE]
    line.craft.hear(data)
    return [DONE]


def call_report(line):
    if line.craft is None:
        return [OTHER_KIND]
    return [DONE] + line.craft.report()


def call_give(line):
    most = line.take_number()
    if line.craft is None:
        return [OTHER_KIND]
    if most > MOST_ASKED:
        return [OUT_OF_RANGE]
    packet = line.craft.oldest_packet()
    if packet == []:
        return [NOT_NOW]
    if len(packet) > most:
        return [TOO_LONG]
    line.craft.let_oldest_go()
    return with_count(packet)


def call_ground(line):
    name = line.take_number()
    channel = line.take_number()
    window = line.take_number()
    if not in_ranges(name, channel, window):
        return [OUT_OF_RANGE]
    line.ground = Ground(name, channel, window)
    line.craft = None
    return [DONE]


def call_send(line):
    n = line.take_number()
    body = line.take_row()
    if line.ground is None:
        return [OTHER_KIND]
    if not is_body_size(n):
        return [OUT_OF_RANGE]
    if not line.ground.has_place():
        return [NOT_NOW]
    line.ground.add_body(body)
    return [DONE]


def call_next(line):
    most = line.take_number()
    if line.ground is None:
        return [OTHER_KIND]
    if most > MOST_ASKED:
        return [OUT_OF_RANGE]
    if not line.ground.may_send_next():
        return [NOT_NOW]
    message = line.ground.next_message()
    if len(message) > most:
        return [TOO_LONG]
    line.ground.count_next_as_sent()
    return with_count(message)


def call_heard(line):
    report = line.take_row()
    if line.ground is None:
        return [OTHER_KIND]
    if not line.ground.believes(report):
        return [NOT_BELIEVED]
    confirmed = line.ground.confirmed_by(report)
    line.ground.take_report(report)
    return [confirmed]


def call_over(line):
    if line.ground is None:
        return [OTHER_KIND]
    line.ground.send_all_over()
    return [DONE]


def call_order(line):
    v = line.take_number()
    most = line.take_number()
    if line.ground is None:
        return [OTHER_KIND]
    if v < 0 or v > MOST_ORDER or most > MOST_ASKED:
        return [OUT_OF_RANGE]
    message = line.ground.order_message(v)
    if len(message) > most:
        return [TOO_LONG]
    line.ground.count_order_as_sent(v)
    return with_count(message)


def call_past(line):
    n = line.take_number()
    most = line.take_number()
    body = line.take_row()
    if line.ground is None:
        return [OTHER_KIND]
    if not is_body_size(n) or most > MOST_ASKED:
        return [OUT_OF_RANGE]
    message = line.ground.past_message(body)
    if len(message) > most:
        return [TOO_LONG]
    return with_count(message)


CALLS = {
    0: call_craft,
    1: call_hear,
    2: call_report,
    3: call_give,
    4: call_ground,
    5: call_send,
    6: call_next,
    7: call_heard,
    8: call_over,
    9: call_order,
    10: call_past,
}


def answers(calls):
    """For each call, in order: how many numbers are answered, then these."""
    line = Line(calls)
    answered = []
    while not line.is_read():
        call = CALLS[line.take_number()]
        numbers = call(line)
        answered.append(len(numbers))
        answered.extend(numbers)
    return answered
