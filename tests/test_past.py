"""Promises 9 and 10: the ground's messages past the order."""

import unittest

from tests.helper import (
    ALL, ask, ask_order, ask_past, ask_past_refused, bodies_left, carried, confirm, frame, ground, message, order, over,
    past, send, take)

BODIES = [[k, 10 * k] for k in range(6)]
TOO_MUCH = (65537, 65538, 131072, 2147483648, 4294967295)
NO_ORDER = (-2147483648, -256, -2, -1, 257, 258, 512, 65536, 2147483647)
NO_BODY = (0, 1018, 1019, 65536, 65537, 2147483648, 4294967295)
# 2 bytes, two blocks, 8 bytes: of a frame with a body of 1 to 7.
SHORT = 26


def prepared(sent=3, confirmed=1):
    """A ground with all of BODIES, so many sent and confirmed."""
    return [ground(), *[send(body) for body in BODIES], *[take()] * sent, confirm(confirmed)]


class Unchanged(unittest.TestCase):
    def stays(self, call, answer):
        """The ground is as it was: three bodies were sent, one of them is confirmed."""
        calls = prepared() + [call]
        self.assertEqual(ask(*calls)[-1], answer)
        self.assertEqual(bodies_left(*calls), [(k, BODIES[k]) for k in range(3, 6)])
        self.assertEqual(bodies_left(*calls, over()), [(k, BODIES[k]) for k in range(1, 6)])
        self.assertEqual(ask(*calls, confirm(4), confirm(3))[-2:], [[-3], [2]])
        self.assertEqual(ask(*calls, over(), confirm(4), confirm(3))[-2:], [[-3], [2]])


class Orders(Unchanged):
    def test_written_out(self):
        # A frame of 8 bytes: 32 + 16, 1, 8, 7, 0, the body 0, the sum.
        got = ask(ground(1, 2, 1), ask_order(256))[-1]
        self.assertEqual(got[:9], [26, 0xEB, 0x90, 48, 1, 8, 7, 0, 0])
        got = ask(ground(1, 2, 1), ask_order(200))[-1]
        self.assertEqual(got[:10], [26, 0xEB, 0x90, 48, 1, 8, 9, 0, 0x82, 0])
        self.assertEqual(got[11], 200)

    def test_256(self):
        self.assertEqual(ask(ground(), ask_order(256))[-1], carried(order([0])))

    def test_each_number(self):
        for v in range(256):
            with self.subTest(v=v):
                self.assertEqual(ask(ground(), ask_order(v))[-1], carried(order([0x82, 0, v])))

    def test_each_name_and_channel(self):
        for name in (0, 255, 256, 1023):
            for channel in (0, 1, 63):
                with self.subTest(name=name, channel=channel):
                    got = ask(ground(name, channel, 1), ask_order(256), ask_order(9))[1:]
                    self.assertEqual(got, [
                        carried(order([0], name=name, channel=channel)),
                        carried(order([0x82, 0, 9], name=name, channel=channel))])

    def test_its_number_is_0(self):
        got = ask(ground(), ask_order(9), *[send(body) for body in BODIES], take(), take(), ask_order(256),
                  ask_order(77), ask_order(78))[-3:]
        self.assertEqual(got, [carried(order([0])), carried(order([0x82, 0, 77])), carried(order([0x82, 0, 78]))])

    def test_256_leaves_all_as_it_was(self):
        self.stays(ask_order(256), carried(order([0])))

    def test_a_number_is_the_base(self):
        for v in (0, 1, 2, 3, 4, 100, 251, 254, 255):
            with self.subTest(v=v):
                calls = prepared() + [ask_order(v)]
                numbered = [((v + k) % 256, BODIES[k + 1]) for k in range(5)]
                self.assertEqual(bodies_left(*calls), numbered)
                self.assertEqual(bodies_left(*calls, over()), numbered)
                self.assertEqual(ask(*calls, confirm(v))[-1], [0])
                self.assertEqual(ask(*calls, take(), take(), confirm((v + 2) % 256))[-1], [2])

    def test_none_was_ever_sent(self):
        for v in (0, 1, 100, 255):
            for between in ([], [over()]):
                with self.subTest(v=v, between=between):
                    calls = prepared() + between + [ask_order(v)]
                    for d in (1, 2, 3, 5, 255):
                        self.assertEqual(ask(*calls, confirm((v + d) % 256))[-1], [-3])
                    got = ask(*calls, take(), confirm((v + 2) % 256), confirm((v + 1) % 256))
                    self.assertEqual(got[-3:], [carried(frame(v, BODIES[1])), [-3], [1]])

    def test_the_window_is_free(self):
        got = ask(ground(window=1), send([1]), send([2]), take(), take(), ask_order(9), take(), take())
        self.assertEqual(got[4:], [[-1], carried(order([0x82, 0, 9])), carried(frame(9, [1])), [-1]])

    def test_out_of_range(self):
        for v in NO_ORDER:
            with self.subTest(v=v):
                self.stays(ask_order(v), [-2])

    def test_too_much(self):
        for most in TOO_MUCH:
            for v in (0, 9, 256):
                with self.subTest(most=most, v=v):
                    self.stays(ask_order(v, most), [-2])

    def test_just_room_enough(self):
        for most in (SHORT, SHORT + 1, 65535, 65536):
            with self.subTest(most=most):
                self.assertEqual(ask(ground(), ask_order(256, most))[-1], carried(order([0])))
                got = ask(ground(), send([1]), ask_order(9, most), take())[2:]
                self.assertEqual(got, [carried(order([0x82, 0, 9])), carried(frame(9, [1]))])

    def test_no_room(self):
        for most in (0, 1, 3, SHORT - 1):
            for v in (0, 9, 255, 256):
                with self.subTest(most=most, v=v):
                    self.stays(ask_order(v, most), [-5])

    def test_range_comes_before_room(self):
        for v in NO_ORDER:
            for most in (0, SHORT - 1):
                with self.subTest(v=v, most=most):
                    self.assertEqual(ask(ground(), ask_order(v, most))[-1], [-2])


class Past(Unchanged):
    def test_written_out(self):
        got = ask(ground(1, 2, 1), ask_past([0xAA]))[-1]
        self.assertEqual(got[:9], [26, 0xEB, 0x90, 32, 1, 8, 7, 0, 0xAA])

    def test_bodies(self):
        for n in (1, 2, 6, 7, 8, 14, 249, 250, 1016, 1017):
            with self.subTest(n=n):
                body = [(13 * k + n) % 256 for k in range(n)]
                self.assertEqual(ask(ground(), ask_past(body))[-1], carried(past(body)))

    def test_each_name_and_channel(self):
        for name in (0, 255, 256, 1023):
            for channel in (0, 1, 63):
                with self.subTest(name=name, channel=channel):
                    got = ask(ground(name, channel, 1), ask_past([5] * 600))[-1]
                    self.assertEqual(got, carried(past([5] * 600, name=name, channel=channel)))

    def test_a_body_like_an_order(self):
        for body in ([0], [0x82, 0, 9]):
            with self.subTest(body=body):
                self.stays(ask_past(body), carried(past(body)))

    def test_the_ground_is_as_it_was(self):
        self.stays(ask_past([1]), carried(past([1])))
        self.stays(ask_past([1] * 1017), carried(past([1] * 1017)))

    def test_its_number_is_0(self):
        got = ask(ground(), ask_order(9), send([1]), send([2]), take(), ask_past([3]), take())[-2:]
        self.assertEqual(got, [carried(past([3])), carried(frame(10, [2]))])

    def test_with_the_window_full_and_64_bodies(self):
        got = ask(ground(window=1), *[send([1])] * 64, take(), take(), ask_past([3]), send([1]))[-3:]
        self.assertEqual(got, [[-1], carried(past([3])), [-1]])

    def test_out_of_range(self):
        for n in NO_BODY:
            with self.subTest(n=n):
                self.stays(ask_past_refused(n), [-2])

    def test_too_much(self):
        for most in TOO_MUCH:
            with self.subTest(most=most):
                self.stays(ask_past([1, 2], most), [-2])
                self.stays(ask_past_refused(0, most), [-2])

    def test_just_room_enough(self):
        for n in (1, 7, 8, 1017):
            size = len(message(past([4] * n)))
            for most in (size, size + 1, 65535, ALL):
                with self.subTest(n=n, most=most):
                    self.assertEqual(ask(ground(), ask_past([4] * n, most))[-1], carried(past([4] * n)))

    def test_no_room(self):
        for n in (1, 7, 8, 1017):
            size = len(message(past([4] * n)))
            for most in (0, 1, size - 1):
                with self.subTest(n=n, most=most):
                    self.stays(ask_past([4] * n, most), [-5])

    def test_range_comes_before_room(self):
        for n in NO_BODY:
            with self.subTest(n=n):
                self.assertEqual(ask(ground(), ask_past_refused(n, 0))[-1], [-2])


if __name__ == "__main__":
    unittest.main()
