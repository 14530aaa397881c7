"""The craft: what it hears it takes in order, each once, or not at all."""

from farcraft.frames import frames_of
from farcraft.messages import Listener
from farcraft.packets import Packets

IS_OPEN = 0
IS_WAITING = 1
IS_LOCKED = 2
UNLOCK_BODY = (0,)
SET_NUMBER_BEGINNING = (0x82, 0)


class Craft:
    """A craft of one name and channel, with its window."""

    def __init__(self, name, channel, window):
        self.name = name
        self.channel = channel
        self.window = window
        self.listener = Listener()
        self.packets = Packets()
        self.state = IS_OPEN
        self.next_number = 0
        self.wait_mark = False
        self.again_mark = False
        self.count = 0

    def hear(self, data):
        for message in self.listener.hear(data):
            for frame in frames_of(message, self.name, self.channel):
                self.take_frame(frame)

    def take_frame(self, frame):
        if frame.past and frame.control:
            self.obey(frame.body)
        elif frame.past:
            self.packets.take_body(frame.body)
            self.count_one_more()
        elif not frame.control:
            self.take_in_order(frame)

    def take_in_order(self, frame):
        if self.state == IS_LOCKED:
            return
        ahead = (frame.number - self.next_number) % 256
        if ahead == 0:
            self.take_next(frame.body)
        elif ahead < self.window:
            if self.state == IS_OPEN:
                self.again_mark = True
        elif ahead < 256 - self.window:
            self.state = IS_LOCKED

    def take_next(self, body):
        if self.state == IS_WAITING:
            return
        if self.packets.has_room():
            self.packets.take_body(body)
            self.next_number = (self.next_number + 1) % 256
            self.again_mark = False
        else:
            self.state = IS_WAITING
            self.wait_mark = True
            self.again_mark = True

    def obey(self, body):
        if tuple(body) == UNLOCK_BODY:
            self.count_one_more()
            self.open_anew()
        elif len(body) == 3 and tuple(body[:2]) == SET_NUMBER_BEGINNING:
            self.count_one_more()
            if self.state != IS_LOCKED:
                self.open_anew()
                self.next_number = body[2]

    def count_one_more(self):
        self.count = (self.count + 1) % 4

    def open_anew(self):
        self.state = IS_OPEN
        self.wait_mark = False
        self.again_mark = False

    def report(self):
        """The four bytes of its report."""
        marks = 2 * self.count
        if self.state == IS_LOCKED:
            marks = marks + 32
        if self.wait_mark:
            marks = marks + 16
        if self.again_mark:
            marks = marks + 8
        return [1, 4 * self.channel, marks, self.next_number]

    def oldest_packet(self):
        """The list and the bytes of the packet that waited longest; an empty list if none waits."""
        if self.packets.waiting == []:
            return []
        return list(self.packets.waiting[0])

    def let_oldest_go(self):
        self.packets.waiting.pop(0)
        if self.state == IS_WAITING:
            self.state = IS_OPEN
        # A craft locked while it waited has the mark still.
        self.wait_mark = False
