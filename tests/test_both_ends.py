"""Both ends together: what a ground's messages say, and what a craft makes of them and reports."""

import unittest

from tests.helper import (
    ask, ask_order, ask_past, confirm, craft, give, given, ground, hear, heard, over, packet, report, send, status,
    take, turned)


class End:
    """One end of the line, with all that was asked of it so far."""

    def __init__(self, first):
        self.calls = [first]

    def do(self, call):
        self.calls.append(call)
        return ask(*self.calls)[-1]


class BothEnds(unittest.TestCase):
    def begin(self, window=4, **craft_is):
        self.here = End(ground(window=window))
        self.there = End(craft(**{"window": window, **craft_is}))

    def send(self, *bodies):
        for body in bodies:
            self.assertEqual(self.here.do(send(body)), [0])

    def reach(self, call, damage=None):
        """The ground's message by this call is heard by the craft."""
        answer = self.here.do(call)
        data = answer[1:]
        self.assertEqual(answer[0], len(data))
        if damage is not None:
            data = damage(data)
        self.assertEqual(self.there.do(hear(data)), [0])

    def lose(self):
        answer = self.here.do(take())
        self.assertEqual(answer[0], len(answer) - 1)

    def report_back(self):
        """What the ground answers to the craft's report."""
        return self.here.do(heard(*self.there.do(report())[1:]))

    def packets(self):
        got = []
        answer = self.there.do(give())
        while answer != [-1]:
            got.append((answer[1], answer[2:]))
            answer = self.there.do(give())
        return got

    def test_each_once_and_in_order(self):
        self.begin()
        self.send(packet([1, 2, 3], 5), packet([4], 63), packet([], 0))
        for k in range(3):
            self.reach(take())
        self.assertEqual(self.there.do(report()), status(3))
        self.assertEqual(self.report_back(), [3])
        self.assertEqual(self.packets(), [(5, [1, 2, 3]), (63, [4]), (0, [])])
        self.assertEqual(self.here.do(take()), [-1])

    def test_a_long_body(self):
        self.begin()
        long = [k % 251 for k in range(1016)]
        self.send(packet(long, 9))
        self.reach(take())
        self.assertEqual(self.there.do(give()), given(long, 9))
        self.assertEqual(self.report_back(), [1])

    def test_pieces(self):
        self.begin()
        self.send([0x47] + [1] * 1016, [0x07] + [2] * 1016, [0x87] + [3])
        for k in range(3):
            self.reach(take())
        self.assertEqual(self.there.do(give()), given([1] * 1016 + [2] * 1016 + [3], 7))

    def test_numbers_past_255(self):
        self.begin(window=1)
        self.reach(ask_order(250))
        self.assertEqual(self.there.do(report()), status(250, count=1))
        for k in range(12):
            self.send(packet([k]))
            self.reach(take())
            self.assertEqual(self.there.do(report()), status((251 + k) % 256, count=1))
            self.assertEqual(self.report_back(), [1])
            self.assertEqual(self.packets(), [(0, [k])])

    def test_one_is_lost(self):
        self.begin()
        self.send(packet([0]), packet([1]), packet([2]), packet([3]))
        self.reach(take())
        self.lose()
        self.reach(take())
        self.assertEqual(self.there.do(report()), status(1, again=True))
        self.assertEqual(self.report_back(), [1])
        for k in range(3):
            self.reach(take())
        self.assertEqual(self.there.do(report()), status(4))
        self.assertEqual(self.report_back(), [3])
        self.assertEqual(self.packets(), [(0, [k]) for k in range(4)])

    def test_the_last_is_lost(self):
        self.begin()
        self.send(packet([0]), packet([1]))
        self.reach(take())
        self.lose()
        self.assertEqual(self.report_back(), [1])
        self.assertEqual(self.here.do(take()), [-1])
        self.assertEqual(self.here.do(over()), [0])
        self.reach(take())
        self.assertEqual(self.report_back(), [1])
        self.assertEqual(self.packets(), [(0, [0]), (0, [1])])

    def test_all_over_though_all_were_heard(self):
        self.begin()
        self.send(packet([0]), packet([1]), packet([2]))
        for k in range(3):
            self.reach(take())
        self.here.do(over())
        self.reach(take())
        self.assertEqual(self.there.do(report()), status(3))
        self.assertEqual(self.report_back(), [3])
        self.assertEqual(self.packets(), [(0, [0]), (0, [1]), (0, [2])])

    def test_a_bit_turned_in_each_block(self):
        self.begin()
        self.send(packet(list(range(40)), 3))
        blocks = (41 + 7 + 6) // 7
        self.reach(take(), lambda data: turned(data, 7, *[16 + 64 * k + (11 * k + 5) % 63 for k in range(blocks)]))
        self.assertEqual(self.packets(), [(3, list(range(40)))])
        self.assertEqual(self.report_back(), [1])

    def test_noise_ahead(self):
        self.begin()
        self.send(packet([1]), packet([2]))
        self.reach(take(), lambda data: [0x55, 0xEB, 0x12, 0x00] + data)
        self.reach(take(), lambda data: [0x90, 0x00] + data)
        self.assertEqual(self.packets(), [(0, [1]), (0, [2])])

    def test_no_room(self):
        self.begin(window=20)
        self.send(*[packet([k], k) for k in range(10)])
        for k in range(10):
            self.reach(take())
        self.assertEqual(self.there.do(report()), status(8, wait=True, again=True))
        self.assertEqual(self.report_back(), [8])
        self.assertEqual(self.there.do(give()), given([0], 0))
        self.assertEqual(self.there.do(report()), status(8, again=True))
        self.reach(take())
        self.assertEqual(self.there.do(report()), status(9))
        self.assertEqual(self.packets(), [(k, [k]) for k in range(1, 9)])
        self.reach(take())
        self.assertEqual(self.report_back(), [2])
        self.assertEqual(self.packets(), [(9, [9])])

    def test_locked_and_opened(self):
        self.begin(window=40)
        self.there = End(craft(window=2))
        self.send(*[packet([k]) for k in range(3)])
        self.lose()
        self.lose()
        self.reach(take())
        self.assertEqual(self.there.do(report()), status(0, locked=True))
        self.assertEqual(self.report_back(), [-3])
        self.here.do(over())
        self.reach(take())
        self.assertEqual(self.there.do(report()), status(0, locked=True))
        self.reach(ask_order(7))
        self.assertEqual(self.there.do(report()), status(0, count=1, locked=True))
        self.reach(ask_order(256))
        self.assertEqual(self.there.do(report()), status(0, count=2))
        self.reach(ask_order(0))
        for k in range(3):
            self.reach(take())
        self.assertEqual(self.there.do(report()), status(3, count=3))
        self.assertEqual(self.report_back(), [3])
        self.assertEqual(self.packets(), [(0, [k]) for k in range(3)])

    def test_a_new_number(self):
        for v in (0, 1, 128, 255):
            with self.subTest(v=v):
                self.begin()
                self.send(packet([1]), packet([2]))
                self.reach(take())
                self.assertEqual(self.report_back(), [1])
                self.reach(ask_order(v))
                self.assertEqual(self.there.do(report()), status(v, count=1))
                self.assertEqual(self.report_back(), [0])
                self.reach(take())
                self.assertEqual(self.there.do(report()), status((v + 1) % 256, count=1))
                self.assertEqual(self.report_back(), [1])

    def test_past_the_order(self):
        self.begin()
        self.send(packet([1]))
        self.reach(ask_past(packet([9, 8], 33)))
        self.reach(ask_past(packet([7] * 1016, 34)))
        self.assertEqual(self.there.do(report()), status(0, count=2))
        self.assertEqual(self.report_back(), [0])
        self.reach(take())
        self.assertEqual(self.packets(), [(33, [9, 8]), (34, [7] * 1016), (0, [1])])

    def test_another_name_or_channel(self):
        for craft_is in ({"name": 0x2A4}, {"name": 0x1A5}, {"channel": 36}):
            with self.subTest(craft_is=craft_is):
                self.begin(**craft_is)
                self.send(packet([1]))
                self.reach(take())
                self.reach(ask_past(packet([1])))
                self.reach(ask_order(9))
                self.reach(ask_order(256))
                self.assertEqual(self.there.do(report()), status(0, channel=craft_is.get("channel", 37)))
                self.assertEqual(self.packets(), [])

    def test_another_channel_is_not_believed(self):
        self.begin(channel=38)
        self.assertEqual(self.report_back(), [-3])
        self.assertEqual(self.here.do(confirm(0)), [0])

    def test_a_line_that_loses_much(self):
        for seed in range(1, 7):
            with self.subTest(seed=seed):
                self.lossy(seed)

    def lossy(self, seed):
        """Till all bodies are confirmed: the packets are those that were sent, in order, each once."""
        self.begin(window=1 + seed)
        bodies = [packet([seed, k], k) for k in range(12)]
        self.send(*bodies)
        got = []
        confirmed = 0
        chance = seed
        while confirmed < len(bodies):
            chance = (chance * 75 + 74) % 65537
            if self.here.do(take(0)) == [-1]:
                self.here.do(over())
            elif chance % 3 == 0:
                self.lose()
            else:
                self.reach(take())
            if chance % 5 < 2:
                confirmed += self.report_back()[0]
            if chance % 7 < 2:
                got += self.packets()
        self.assertEqual(got + self.packets(), [(k, [seed, k]) for k in range(12)])
        self.assertEqual(self.here.do(take()), [-1])


if __name__ == "__main__":
    unittest.main()
