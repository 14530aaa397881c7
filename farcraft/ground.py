"""The ground: bodies that are to reach the craft in their order."""

from farcraft.frames import Frame, frame_bytes
from farcraft.messages import message_of

MOST_BODIES = 64
REPORT_BEGINNING = 1
LOCKED_BIT = 32
AGAIN_BIT = 8
UNLOCK = 256


class Ground:
    """A ground for the craft of one name and channel, with its window."""

    def __init__(self, name, channel, window):
        self.name = name
        self.channel = channel
        self.window = window
        # Those not confirmed yet; the first of them has the base as its number.
        self.bodies = []
        self.base = 0
        # Of these bodies, counted from the first.
        self.sent_by_now = 0
        self.ever_sent = 0

    def has_place(self):
        return len(self.bodies) < MOST_BODIES

    def add_body(self, body):
        self.bodies.append(body)

    def may_send_next(self):
        return self.sent_by_now < self.window and self.sent_by_now < len(self.bodies)

    def message_with(self, frame):
        return message_of(frame_bytes(frame, self.name, self.channel))

    def next_message(self):
        """The message of the first body that isn't sent by now."""
        number = (self.base + self.sent_by_now) % 256
        return self.message_with(Frame(False, False, number, self.bodies[self.sent_by_now]))

    def count_next_as_sent(self):
        self.sent_by_now = self.sent_by_now + 1
        # What is sent once more, behind a send_all_over, is counted there already.
        self.ever_sent = max(self.ever_sent, self.sent_by_now)

    def confirmed_by(self, report):
        """How many bodies this report confirms."""
        return (report[3] - self.base) % 256

    def believes(self, report):
        if report[0] != REPORT_BEGINNING or report[1] != 4 * self.channel:
            return False
        if (report[2] & LOCKED_BIT) != 0:
            return False
        return self.confirmed_by(report) <= self.ever_sent

    def take_report(self, report):
        confirmed = self.confirmed_by(report)
        self.bodies = self.bodies[confirmed:]
        # As many more as are confirmed, modulo 256.
        self.base = report[3]
        self.sent_by_now = max(self.sent_by_now - confirmed, 0)
        self.ever_sent = self.ever_sent - confirmed
        if (report[2] & AGAIN_BIT) != 0:
            self.send_all_over()

    def send_all_over(self):
        self.sent_by_now = 0

    def order_message(self, v):
        """The message that unlocks the craft, or that makes v its next number."""
        body = [0] if v == UNLOCK else [0x82, 0, v]
        return self.message_with(Frame(True, True, 0, body))

    def count_order_as_sent(self, v):
        if v == UNLOCK:
            return
        self.base = v
        self.sent_by_now = 0
        self.ever_sent = 0

    def past_message(self, body):
        return self.message_with(Frame(True, False, 0, body))
