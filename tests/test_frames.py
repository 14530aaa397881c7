"""Promise 2, the frames of a message: which are taken, and where that ends."""

import unittest

from tests.helper import (
    CHANNEL, NAME, UNLOCK, ask, craft, frame, give, given, head, hear, hear_frames, message, order, packet,
    packets_after, past, report, set_number, status, turned, with_sum)


def heard(*frames):
    """What a new craft reports when it heard these frames in one message."""
    return ask(craft(), hear_frames(*frames), report())[-1]


GOOD = past([])


class Frames(unittest.TestCase):
    def check_not_taken(self, bad):
        """It isn't taken, alone, and ahead of good ones, which don't count then either; those ahead of it do."""
        self.assertEqual(heard(bad), status())
        self.assertEqual(heard(bad, GOOD), status())
        self.assertEqual(heard(GOOD, bad), status(0, 1))
        self.assertEqual(heard(GOOD, GOOD, bad, GOOD), status(0, 2))
        got = ask(craft(), hear(message(GOOD, bad, GOOD) + message(GOOD)), report())
        self.assertEqual(got[-1], status(0, 2))

    def test_several(self):
        self.assertEqual(heard(GOOD), status(0, 1))
        self.assertEqual(heard(GOOD, GOOD), status(0, 2))
        self.assertEqual(heard(GOOD, frame(0, [1]), UNLOCK, frame(1, packet([7])), set_number(9)), status(9, 3))

    def test_in_their_order(self):
        frames = [frame(k, packet([k] * k, k)) for k in range(8)]
        self.assertEqual(packets_after(craft(), hear_frames(*frames)), [(k, [k] * k) for k in range(8)])

    def test_another_name(self):
        for bit in range(10):
            with self.subTest(bit=bit):
                self.check_not_taken(past([1], name=NAME ^ (1 << bit)))

    def test_another_channel(self):
        for bit in range(6):
            with self.subTest(bit=bit):
                self.check_not_taken(past([1], channel=CHANNEL ^ (1 << bit)))

    def test_all_else_is_0(self):
        for bit in (4, 8, 64, 128):
            with self.subTest(bit=bit):
                self.check_not_taken(frame(0, [1], first=32 + bit))
                self.check_not_taken(frame(0, packet([1]), first=bit))

    def test_a_wrong_sum(self):
        good = past(packet([1, 2]))
        for place in list(range(6)) + list(range(32, len(good) * 8)):
            with self.subTest(place=place):
                self.check_not_taken(turned(good, place))

    def test_a_sum_that_is_another(self):
        data = head(8, 0, 32) + [1]
        right = with_sum(data)
        self.check_not_taken(data + [0, 0])
        self.check_not_taken(data + right[-1:] + right[-2:-1])
        self.check_not_taken(data + [right[-2] ^ 255, right[-1] ^ 255])

    def test_not_whole(self):
        good = past(packet([1, 2, 3]))
        for size in range(1, len(good)):
            with self.subTest(size=size):
                # As many bytes as fill the last block, so that no 55H stands behind.
                lead = past(packet([0] * ((-size - 8) % 7)))
                self.assertEqual((len(lead) + size) % 7, 0)
                self.assertEqual(heard(lead, good[:size]), status(0, 1))

    def test_longer_than_what_is_there(self):
        for length in (15, 16, 100, 256, 257, 1024):
            with self.subTest(length=length):
                self.check_not_taken(with_sum(head(length, 0, 32) + [1, 2, 3, 4, 5, 6, 7][:7]))

    def test_to_the_very_end(self):
        for size in (7, 14, 700):
            data = message(past(packet([5] * (size - 8)) if size > 7 else []))
            self.assertEqual(len(data), 2 + size // 7 * 8 + 8)
            self.assertEqual(ask(craft(), hear(data), report())[-1], status(0, 1))

    def test_shorter_than_a_frame(self):
        # The sum stands at the told end, over all before that.
        for length in range(1, 7):
            with self.subTest(length=length):
                self.check_not_taken(with_sum(head(length, 0, 32)))
        self.check_not_taken(with_sum(head(6, 0, 32)[:4]))
        name, data = five_bytes()
        got = ask(craft(name, 0), hear_frames(data), report())
        self.assertEqual(got[-1], status(channel=0))

    def test_shortest_and_longest(self):
        for size in (0, 1, 2, 248, 249, 250, 255, 256, 505, 506, 761, 762, 1016, 1017):
            with self.subTest(size=size):
                body = packet([(k * 3) % 256 for k in range(size - 1)], 63) if size > 0 else []
                got = ask(craft(), hear_frames(past(body), GOOD), report(), give())
                self.assertEqual(got[2], status(0, 2))
                self.assertEqual(got[3], given(body[1:], 63) if size > 0 else [-1])

    def test_what_follows_is_told_by_the_length(self):
        inner = past([])
        self.assertEqual(heard(past(packet(inner)), GOOD), status(0, 2))

    def test_padding(self):
        for size in range(1, 16):
            with self.subTest(size=size):
                self.assertEqual(heard(past(packet([1] * size))), status(0, 1))

    def test_bytes_behind_the_frames(self):
        self.assertEqual(heard(GOOD, [0] * 30), status(0, 1))
        self.assertEqual(heard([0], GOOD), status())
        self.assertEqual(heard([0x55] * 7, GOOD), status())

    def test_control_in_its_order(self):
        for body in ([0], [0x82, 0, 5], packet([1]), []):
            for number in (0, 1, 100, 255):
                with self.subTest(body=body, number=number):
                    got = ask(craft(), hear_frames(frame(number, body, first=16), GOOD), report(), give())
                    self.assertEqual(got[2:], [status(0, 1), [-1]])

    def test_number_of_those_past_the_order(self):
        for number in (0, 1, 10, 128, 255):
            with self.subTest(number=number):
                got = ask(
                    craft(), hear_frames(past(packet([1]), number), order([0], number), order([0x82, 0, 4], number)),
                    report(), give())
                self.assertEqual(got[2:], [status(4, 3), given([1])])


def five_bytes():
    """A name, and five bytes on channel 0 that tell their length as 5 and end with their sum."""
    for name in range(1024):
        data = with_sum([32 + name // 256, name % 256, 0])
        if data[3] == 4:
            return name, data
    raise AssertionError("there's no such name")


if __name__ == "__main__":
    unittest.main()
