"""Promise 2, what a frame does: in the order, past it, and with control; promise 3 tells what came of it."""

import unittest

from tests.helper import (
    UNLOCK, ask, craft, frame, full, give, given, hear_frames, lock, order, packet, past, report, set_number, status)

WINDOWS = (1, 2, 3, 10, 64, 126, 127)


def edges(window):
    """The places just within and just outside the window, both ahead and behind."""
    near = {0, 1, 2, window - 1, window, window + 1, 127, 128, 129}
    near |= {256 - window - 2, 256 - window - 1, 256 - window, 256 - window + 1, 254, 255}
    return sorted(d for d in near if 0 <= d < 256)


def seen(window, base, frames, d):
    """The report after these frames, and then one in its order, d ahead of the next number."""
    got = ask(
        craft(window=window), hear_frames(set_number(base)), *[hear_frames(one) for one in frames],
        hear_frames(frame((base + d) % 256, packet([77], 5))), report())
    return got[-1]


class InOrder(unittest.TestCase):
    def each(self):
        for window in WINDOWS:
            for base in (0, 1, 200, 255):
                for d in edges(window):
                    yield window, base, d

    def test_open_with_room(self):
        for window, base, d in self.each():
            expected = status(base, 1)
            if d == 0:
                expected = status((base + 1) % 256, 1)
            elif d < window:
                expected = status(base, 1, again=True)
            elif d < 256 - window:
                expected = status(base, 1, locked=True)
            with self.subTest(window=window, base=base, d=d):
                self.assertEqual(seen(window, base, [], d), expected)

    def test_open_without_room(self):
        for window, base, d in self.each():
            expected = status(base, 1)
            if d == 0:
                expected = status(base, 1, wait=True, again=True)
            elif d < window:
                expected = status(base, 1, again=True)
            elif d < 256 - window:
                expected = status(base, 1, locked=True)
            with self.subTest(window=window, base=base, d=d):
                self.assertEqual(seen(window, base, full(), d), expected)

    def test_waiting(self):
        for window, base, d in self.each():
            locked = window <= d < 256 - window
            expected = status(base, 1, wait=True, again=True, locked=locked)
            with self.subTest(window=window, base=base, d=d):
                frames = full() + [frame(base, packet([1]))]
                self.assertEqual(seen(window, base, frames, d), expected)

    def test_locked(self):
        for window, base, d in self.each():
            with self.subTest(window=window, base=base, d=d):
                self.assertEqual(seen(window, base, [lock(base)], d), status(base, 1, locked=True))
                self.assertEqual(seen(window, base, [lock(base)] + full(), d), status(base, 1, locked=True))

    def test_all_places(self):
        for d in range(256):
            expected = status(1)
            if 0 < d < 10:
                expected = status(again=True)
            elif 10 <= d < 246:
                expected = status(locked=True)
            elif d > 0:
                expected = status()
            with self.subTest(d=d):
                self.assertEqual(ask(craft(), hear_frames(frame(d, packet([1]))), report())[-1], expected)

    def test_only_the_next_is_taken(self):
        for d in (1, 5, 9, 10, 128, 245, 246, 255):
            with self.subTest(d=d):
                self.assertEqual(ask(craft(), hear_frames(frame(d, packet([1]))), give())[-1], [-1])

    def test_each_once(self):
        one = frame(0, packet([1]))
        two = frame(1, packet([2]))
        got = ask(craft(), hear_frames(one, one, two, one, two), report(), give(), give(), give())
        self.assertEqual(got[2:], [status(2), given([1]), given([2]), [-1]])

    def test_again_mark_goes_with_the_next(self):
        got = ask(
            craft(), hear_frames(frame(2, packet([3]))), report(), hear_frames(frame(255, packet([9]))), report(),
            hear_frames(frame(0, packet([1]))), report(), hear_frames(frame(0, packet([1]))), report())
        self.assertEqual(got[2::2], [status(again=True), status(again=True), status(1), status(1)])

    def test_again_mark_stays_past_the_order(self):
        got = ask(craft(), hear_frames(frame(2, packet([3])), past(packet([1]))), report())
        self.assertEqual(got[-1], status(0, 1, again=True))

    def test_locked_keeps_the_again_mark(self):
        got = ask(craft(), hear_frames(frame(2, packet([3])), lock()), report())
        self.assertEqual(got[-1], status(locked=True, again=True))

    def test_all_numbers_round(self):
        frames = [frame(k % 256, [0x00]) for k in range(300)]
        got = ask(craft(window=1), hear_frames(*frames[:256]), report(), hear_frames(*frames[256:]), report())
        self.assertEqual(got[2::2], [status(0), status(44)])

    def test_an_empty_body_is_taken(self):
        got = ask(craft(), hear_frames(frame(0, []), frame(1, [])), report(), give())
        self.assertEqual(got[2:], [status(2), [-1]])

    def test_without_room_nothing_is_taken(self):
        for body in (packet([1]), [], [0x41, 1], [0x01, 1]):
            with self.subTest(body=body):
                got = ask(craft(), hear_frames(*full()), hear_frames(frame(0, body)), report())
                self.assertEqual(got[-1], status(0, 0, wait=True, again=True))

    def test_a_first_piece_without_room_is_not_taken(self):
        got = ask(
            craft(), hear_frames(*full()), hear_frames(frame(0, [0x41, 1])), *[give()] * 8,
            hear_frames(past([0x81, 2])), give())
        self.assertEqual(got[-1], [-1])

    def test_room_of_eight(self):
        frames = [frame(k, packet([k])) for k in range(9)]
        got = ask(craft(), hear_frames(*frames[:8]), report(), hear_frames(frames[8]), report(), *[give()] * 9)
        self.assertEqual(got[2], status(8))
        self.assertEqual(got[4], status(8, wait=True, again=True))
        self.assertEqual(got[5:], [given([k]) for k in range(8)] + [[-1]])

    def test_waiting_till_one_is_given(self):
        nine = hear_frames(frame(8, packet([8])))
        got = ask(
            craft(), hear_frames(*[frame(k, packet([k])) for k in range(9)]), nine, report(), give(), report(),
            nine, report(), nine, report(), *[give()] * 8)
        self.assertEqual(got[3], status(8, wait=True, again=True))
        self.assertEqual(got[5], status(8, again=True))
        self.assertEqual(got[7], status(9))
        self.assertEqual(got[9], status(9))
        self.assertEqual(got[10:], [given([k]) for k in range(1, 9)])


class PastTheOrder(unittest.TestCase):
    def test_taken(self):
        got = ask(craft(), hear_frames(past(packet([4, 5], 3))), report(), give())
        self.assertEqual(got[2:], [status(0, 1), given([4, 5], 3)])

    def test_taken_while_locked(self):
        got = ask(craft(), hear_frames(lock(), past(packet([4, 5], 3))), report(), give())
        self.assertEqual(got[2:], [status(0, 1, locked=True), given([4, 5], 3)])

    def test_a_ninth_packet_is_lost(self):
        got = ask(craft(), hear_frames(*full(9)), report(), *[give()] * 9)
        self.assertEqual(got[2], status(0, 1))
        self.assertEqual(got[3:], [given([k], k) for k in range(8)] + [[-1]])

    def test_lost_while_waiting(self):
        got = ask(craft(), hear_frames(*full()), hear_frames(frame(0, [1]), past(packet([8]))), report(), *[give()] * 9)
        self.assertEqual(got[3], status(0, 1, wait=True, again=True))
        self.assertEqual(got[4:], [given([k], k) for k in range(8)] + [[-1]])

    def test_counts_up_to_3_and_anew(self):
        for k in range(10):
            with self.subTest(k=k):
                self.assertEqual(ask(craft(), hear_frames(*[past([])] * k), report())[-1], status(0, k % 4))

    def test_without_control_it_is_no_order(self):
        for body in ([0], [0x82, 0, 7]):
            with self.subTest(body=body):
                got = ask(craft(), hear_frames(lock(), past(body)), report(), give())
                self.assertEqual(got[2:], [status(0, 1, locked=True), [-1]])
        self.assertEqual(ask(craft(), hear_frames(past([0x82, 0, 7])), report())[-1], status(0, 1))


class Orders(unittest.TestCase):
    def test_unlock(self):
        for frames, next_number in (([], 0), ([lock()], 0), ([frame(0, [1]), frame(5, [1])], 1),
                                    ([frame(0, [1]), frame(5, [1]), lock(1)], 1)):
            with self.subTest(frames=frames):
                got = ask(craft(), hear_frames(*frames, UNLOCK), report())
                self.assertEqual(got[-1], status(next_number, 1))

    def test_unlock_while_waiting(self):
        nine = hear_frames(frame(0, packet([1])))
        got = ask(craft(), hear_frames(*full()), nine, report(), hear_frames(UNLOCK), report(), nine, report())
        self.assertEqual(got[3::2], [status(wait=True, again=True), status(0, 1), status(0, 1, wait=True, again=True)])

    def test_unlock_when_locked_while_waiting(self):
        got = ask(
            craft(), hear_frames(*full()), hear_frames(frame(0, [1]), lock()), report(), hear_frames(UNLOCK), report())
        self.assertEqual(got[3::2], [status(locked=True, wait=True, again=True), status(0, 1)])

    def test_unlocked_takes_the_next(self):
        got = ask(craft(), hear_frames(lock(), UNLOCK, frame(0, packet([6]))), report(), give())
        self.assertEqual(got[2:], [status(1, 1), given([6])])

    def test_opened_again_marks_again(self):
        got = ask(craft(), hear_frames(*full()), hear_frames(frame(0, [1]), UNLOCK, frame(3, [1])), report())
        self.assertEqual(got[-1], status(0, 1, again=True))

    def test_set(self):
        for v in (0, 1, 127, 128, 200, 255):
            with self.subTest(v=v):
                got = ask(
                    craft(), hear_frames(frame(3, [1]), set_number(v)), report(),
                    hear_frames(frame(v, packet([6]))), report(), give())
                self.assertEqual(got[2], status(v, 1))
                self.assertEqual(got[4:], [status((v + 1) % 256, 1), given([6])])

    def test_set_while_waiting(self):
        got = ask(
            craft(), hear_frames(*full()), hear_frames(frame(0, [1]), set_number(50)), report(),
            hear_frames(frame(52, [1])), report())
        self.assertEqual(got[3::2], [status(50, 1), status(50, 1, again=True)])

    def test_set_while_locked(self):
        got = ask(craft(), hear_frames(frame(3, [1]), lock(), set_number(50)), report())
        self.assertEqual(got[-1], status(0, 1, locked=True, again=True))
        got = ask(craft(), hear_frames(*full()), hear_frames(frame(0, [1]), lock(), set_number(50)), report())
        self.assertEqual(got[-1], status(0, 1, locked=True, wait=True, again=True))

    def test_set_keeps_packets_and_pieces(self):
        got = ask(
            craft(), hear_frames(past(packet([1])), past([0x42, 2]), set_number(9), UNLOCK, past([0x82, 3])),
            give(), give())
        self.assertEqual(got[2:], [given([1]), given([2, 3], 2)])

    def test_count(self):
        for k in range(9):
            with self.subTest(k=k):
                self.assertEqual(ask(craft(), hear_frames(*[UNLOCK] * k), report())[-1], status(0, k % 4))
                self.assertEqual(ask(craft(), hear_frames(*[set_number(6)] * k), report())[-1],
                                 status(6 if k > 0 else 0, k % 4))
                got = ask(craft(), hear_frames(lock(), *[set_number(6)] * k), report())
                self.assertEqual(got[-1], status(0, k % 4, locked=True))

    def test_all_else(self):
        bodies = (
            [], [1], [2], [128], [255], [0, 0], [0, 0, 0], [0x82], [0x82, 0], [0x82, 1, 7], [0x82, 255, 7],
            [0x82, 0, 7, 0], [0x82, 0, 7, 7], [0x83, 0, 7], [0x02, 0, 7], [0, 0, 7], [0x82, 7, 0], packet([1]),
            packet([0, 7]), [0x41, 1], [0] * 1017, [0x82, 0] + [7] * 1015)
        for body in bodies:
            with self.subTest(body=body[:5], size=len(body)):
                got = ask(
                    craft(), hear_frames(frame(0, packet([3])), frame(5, [1]), order(body), past([])), report(),
                    hear_frames(lock(1), order(body), past([])), report(), give(), give())
                self.assertEqual(got[2], status(1, 1, again=True))
                self.assertEqual(got[4], status(1, 2, again=True, locked=True))
                self.assertEqual(got[5:], [given([3]), [-1]])

    def test_an_order_is_no_packet(self):
        got = ask(craft(), hear_frames(UNLOCK, set_number(3), order(packet([1]))), give())
        self.assertEqual(got[-1], [-1])

    def test_an_order_of_another_name_or_channel(self):
        for where in ({"name": 1}, {"channel": 1}):
            got = ask(craft(), hear_frames(order([0], **where)), hear_frames(order([0x82, 0, 5], **where)), report())
            self.assertEqual(got[-1], status())


if __name__ == "__main__":
    unittest.main()
