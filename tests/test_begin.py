"""Promise 1, and of promise 5 tc_ground: what begins an object, and what is refused."""

import unittest

from tests.helper import (
    ask, ask_order, bodies_left, carried, confirm, craft, frame, give, given, ground, hear, hear_frames, lock, message,
    packet, past, report, send, status, take)

WITHIN = [
    (0, 0, 1), (1023, 63, 127), (0, 63, 127), (1023, 0, 1), (512, 31, 64), (0, 0, 127), (255, 1, 2), (256, 62, 126),
]
OUTSIDE = [
    (-1, 0, 1), (1024, 0, 1), (0, -1, 1), (0, 64, 1), (0, 0, 0), (0, 0, 128), (0, 0, -1),
    (-1, -1, 0), (1024, 64, 128), (-2147483648, 0, 1), (2147483647, 0, 1), (0, -2147483648, 1),
    (0, 2147483647, 1), (0, 0, -2147483648), (0, 0, 2147483647), (-1023, 5, 5), (5, -63, 5), (5, 5, -127),
    (65536, 0, 1), (0, 256, 1), (0, 0, 257), (1025, 5, 5),
]


class BeginCraft(unittest.TestCase):
    def test_within(self):
        for name, channel, window in WITHIN:
            with self.subTest(name=name, channel=channel, window=window):
                got = ask(craft(name, channel, window), report())
                self.assertEqual(got, [[0], status(channel=channel)])

    def test_outside(self):
        for where in OUTSIDE:
            with self.subTest(where=where):
                self.assertEqual(ask(craft(), craft(*where), report()), [[0], [-2], status()])

    def test_it_hears_its_own_name_and_channel(self):
        for name, channel, window in WITHIN:
            with self.subTest(name=name, channel=channel, window=window):
                sent = message(frame(0, packet([7, 8]), name=name, channel=channel))
                got = ask(craft(name, channel, window), hear(sent), report(), give())
                self.assertEqual(got[2:], [status(1, channel=channel), given([7, 8])])

    def test_refused_leaves_all_as_it_was(self):
        sent = message(frame(1, packet([4])), lock(2))
        for where in OUTSIDE:
            with self.subTest(where=where):
                got = ask(
                    craft(), hear_frames(frame(0, packet([3])), past([0x41, 1])), hear(sent[:11]), craft(*where),
                    hear(sent[11:]), report(), craft(*where), hear_frames(past([0x81, 2])), give(), give(), give())
                self.assertEqual(got[3:], [
                    [-2], [0], status(2, 1, locked=True), [-2], [0], given([3]), given([4]), given([1, 2], 1)])

    def test_begins_anew(self):
        got = ask(
            craft(), hear_frames(frame(0, packet([3])), past([0x41, 1]), lock(1)), report(),
            craft(), report(), give(), hear_frames(past([0x81, 2])), give())
        self.assertEqual(got[2:], [status(1, 1, locked=True), [0], status(), [-1], [0], [-1]])

    def test_begins_anew_with_other_numbers(self):
        got = ask(
            craft(1, 2, 3), craft(4, 5, 6),
            hear_frames(frame(0, packet([1]), name=1, channel=2)), report(),
            hear_frames(frame(5, packet([1]), name=4, channel=5)), report(),
            hear_frames(frame(6, packet([1]), name=4, channel=5)), report())
        self.assertEqual(got[3], status(channel=5))
        self.assertEqual(got[5], status(again=True, channel=5))
        self.assertEqual(got[7], status(again=True, locked=True, channel=5))

    def test_begins_to_look_anew(self):
        sent = message(frame(0, packet([3])))
        for cut in (1, 2, 5, len(sent) - 1):
            with self.subTest(cut=cut):
                got = ask(craft(), hear(sent[:cut]), craft(), hear(sent[cut:]), report(), hear(sent), report())
                self.assertEqual(got[4:], [status(), [0], status(1)])


class BeginGround(unittest.TestCase):
    def test_within(self):
        for where in WITHIN:
            with self.subTest(where=where):
                self.assertEqual(ask(ground(*where), send([1]), report()), [[0], [0], [-9]])

    def test_outside(self):
        for where in OUTSIDE:
            with self.subTest(where=where):
                self.assertEqual(ask(ground(), ground(*where), send([1])), [[0], [-2], [0]])

    def test_refused_leaves_the_bodies(self):
        got = ask(ground(), *([send([1])] * 63 + [ground(0, 64, 1)] + [send([2])] * 2))
        self.assertEqual(got[-3:], [[-2], [0], [-1]])

    def test_its_own_name_channel_and_window(self):
        for name, channel, window in WITHIN:
            with self.subTest(name=name, channel=channel, window=window):
                calls = [ground(name, channel, window), *[send([k]) for k in range(64)], *[take()] * 65]
                got = ask(*calls, confirm(1, channel=channel))[65:]
                may = min(window, 64)
                self.assertEqual(got[:may], [carried(frame(k, [k], name=name, channel=channel)) for k in range(may)])
                self.assertEqual(got[may:], [[-1]] * (65 - may) + [[1]])

    def test_refused_leaves_all_as_it_was(self):
        begun = [ground(), *[send([k]) for k in range(5)], ask_order(9), *[take()] * 3, confirm(10)]
        for where in OUTSIDE:
            for refused in (ground(*where), craft(*where)):
                with self.subTest(refused=refused):
                    self.assertEqual(ask(*begun, refused, confirm(13), confirm(12))[-3:], [[-2], [-3], [2]])
                    self.assertEqual(bodies_left(*begun, refused), [(12, [3]), (13, [4])])

    def test_base_and_counts_begin_anew(self):
        begun = [ground(), *[send([k]) for k in range(5)], ask_order(9), *[take()] * 3, confirm(10)]
        for anew in ([ground()], [craft(), ground()]):
            with self.subTest(anew=anew):
                self.assertEqual(ask(*begun, *anew, take(), confirm(10), confirm(0))[-3:], [[-1], [-3], [0]])
                calls = begun + anew + [send([7]), send([8])]
                self.assertEqual(ask(*calls, confirm(1), confirm(0))[-2:], [[-3], [0]])
                self.assertEqual(bodies_left(*calls), [(0, [7]), (1, [8])])

    def test_begins_anew(self):
        got = ask(ground(), *([send([1])] * 65 + [ground()] + [send([2])] * 65))
        self.assertEqual(got, [[0]] * 65 + [[-1]] + [[0]] * 65 + [[-1]])


class OtherKind(unittest.TestCase):
    def test_a_craft_becomes_a_ground(self):
        got = ask(craft(), hear_frames(frame(0, packet([3]))), ground(), report(), give(), hear([]), send([1]))
        self.assertEqual(got[2:], [[0], [-9], [-9], [-9], [0]])

    def test_a_ground_becomes_a_craft(self):
        got = ask(ground(), send([1]), craft(), report(), give(), hear([]), send([1]))
        self.assertEqual(got[2:], [[0], status(), [-1], [0], [-9]])

    def test_a_craft_again_knows_nothing_of_before(self):
        got = ask(craft(), hear_frames(frame(0, packet([3])), lock(1)), ground(), craft(), report(), give())
        self.assertEqual(got[4:], [status(), [-1]])

    def test_a_ground_again_has_no_bodies(self):
        got = ask(ground(), *([send([1])] * 64 + [craft(), ground()] + [send([1])] * 65))
        self.assertEqual(got[65:], [[0]] * 66 + [[-1]])

    def test_a_refused_other_kind_leaves_the_kind(self):
        for where in OUTSIDE:
            with self.subTest(where=where):
                got = ask(craft(), hear_frames(frame(0, packet([3]))), ground(*where), report(), send([1]), give())
                self.assertEqual(got[2:], [[-2], status(1), [-9], given([3])])
                got = ask(ground(), *([send([1])] * 63 + [craft(*where), report(), send([1]), send([1])]))
                self.assertEqual(got[64:], [[-2], [-9], [0], [-1]])


if __name__ == "__main__":
    unittest.main()
