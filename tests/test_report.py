"""Promise 3: the report."""

import unittest

from tests.helper import ask, craft, frame, full, give, hear_frames, lock, packet, past, report, set_number, status


class Report(unittest.TestCase):
    def test_new(self):
        self.assertEqual(ask(craft(), report())[-1], [0, 1, 148, 0, 0])

    def test_each_channel(self):
        for channel in range(64):
            with self.subTest(channel=channel):
                self.assertEqual(ask(craft(channel=channel), report())[-1], [0, 1, 4 * channel, 0, 0])

    def test_locked(self):
        self.assertEqual(ask(craft(), hear_frames(lock()), report())[-1], [0, 1, 148, 32, 0])

    def test_again(self):
        self.assertEqual(ask(craft(), hear_frames(frame(1, [1])), report())[-1], [0, 1, 148, 8, 0])

    def test_wait(self):
        waiting = [craft(), hear_frames(*full()), hear_frames(frame(0, packet([1])))]
        self.assertEqual(ask(*waiting, report())[-1], [0, 1, 148, 24, 0])
        self.assertEqual(ask(*waiting, give(), report())[-1], [0, 1, 148, 8, 0])

    def test_all_at_once(self):
        got = ask(
            craft(channel=63), hear_frames(*[past(packet([1]), channel=63)] * 11, set_number_63(255)),
            hear_frames(frame(255, [1], channel=63), frame(127, [1], channel=63)),
            hear_frames(*[past([], channel=63)] * 3), report())
        self.assertEqual(got[-1], [0, 1, 252, 32 + 16 + 8 + 6, 255])

    def test_count(self):
        for k in range(12):
            with self.subTest(k=k):
                self.assertEqual(ask(craft(), hear_frames(*[past([])] * k), report())[-1], [0, 1, 148, k % 4 * 2, 0])

    def test_next_number(self):
        frames = [frame(k % 256, []) for k in range(260)]
        got = ask(craft(), *[call for one in frames[:150] for call in (hear_frames(one), report())])
        self.assertEqual(got[2::2], [[0, 1, 148, 0, k + 1] for k in range(150)])
        got = ask(craft(), hear_frames(*frames[:250]),
                  *[call for one in frames[250:] for call in (hear_frames(one), report())])
        self.assertEqual(got[3::2], [[0, 1, 148, 0, (k + 1) % 256] for k in range(250, 260)])

    def test_beyond_255_by_a_set_number(self):
        got = ask(craft(), hear_frames(set_number(255)), report(), hear_frames(frame(255, [])), report())
        self.assertEqual(got[2::2], [[0, 1, 148, 2, 255], [0, 1, 148, 2, 0]])

    def test_it_changes_nothing(self):
        calls = [craft(), hear_frames(*full()), hear_frames(frame(0, [1]), lock())] + [report()] * 3 + [give()]
        got = ask(*calls, report())
        self.assertEqual(got[3:6], [status(locked=True, wait=True, again=True)] * 3)
        self.assertEqual(got[7], status(locked=True, again=True))


def set_number_63(v):
    return frame(0, [0x82, 0, v], first=48, channel=63)


if __name__ == "__main__":
    unittest.main()
