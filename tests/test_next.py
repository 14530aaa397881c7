"""Promises 6 and 8: the ground's bodies as messages, and that they are to be sent over."""

import unittest

from tests.helper import (
    ALL, TAIL, ask, ask_order, block, bodies_left, carried, confirm, frame, ground, message, over, send, send_refused,
    take)

BODIES = [[k, k + 1, k + 2] for k in range(5)]
TOO_MUCH = (65537, 65538, 131072, 2147483648, 4294967295)


def sends(bodies):
    return [send(body) for body in bodies]


class Messages(unittest.TestCase):
    def test_written_out(self):
        # A frame of 8 bytes: 00 01 08 07 00, the body AA, the sum.
        got = ask(ground(1, 2, 1), send([0xAA]), take())[-1]
        self.assertEqual(got, [
            26, 0xEB, 0x90, 0x00, 0x01, 0x08, 0x07, 0x00, 0xAA, 0xB0, 0x70, 0xB2, 0x55, 0x55, 0x55, 0x55, 0x55, 0x55,
            0x1C, 0xC5, 0xC5, 0xC5, 0xC5, 0xC5, 0xC5, 0xC5, 0x79])

    def test_one_byte(self):
        for byte in (0, 1, 127, 128, 255):
            with self.subTest(byte=byte):
                self.assertEqual(ask(ground(), send([byte]), take())[-1], carried(frame(0, [byte])))

    def test_each_length_of_some(self):
        for n in range(1, 30):
            with self.subTest(n=n):
                body = [(7 * k + n) % 256 for k in range(n)]
                got = ask(ground(), send(body), take())[-1]
                self.assertEqual(got, carried(frame(0, body)))
                self.assertEqual(len(got), got[0] + 1)
                self.assertEqual(got[0], 10 + 8 * ((n + 7 + 6) // 7))

    def test_long_bodies(self):
        for n in (248, 249, 250, 504, 505, 506, 760, 761, 762, 1015, 1016, 1017):
            with self.subTest(n=n):
                body = [(31 * k + n) % 256 for k in range(n)]
                self.assertEqual(ask(ground(), send(body), take())[-1], carried(frame(0, body)))

    def test_the_longest(self):
        got = ask(ground(), send([255] * 1017), take())[-1]
        self.assertEqual(got, carried(frame(0, [255] * 1017)))
        self.assertEqual(got[0], 1186)

    def test_filled_with_55(self):
        # Of 7 + n bytes, 14 fill two blocks; one more needs six of filling.
        got = ask(ground(), send([9] * 7), send([9] * 8), send([9] * 13), take(), take(), take())[4:]
        one = frame(0, [9] * 7)
        self.assertEqual(got[0][3:], block(one[:7]) + block(one[7:]) + TAIL)
        one = frame(1, [9] * 8)
        self.assertEqual(got[1][3:], block(one[:7]) + block(one[7:14]) + block(one[14:] + [0x55] * 6) + TAIL)
        one = frame(2, [9] * 13)
        self.assertEqual(got[2][3:], block(one[:7]) + block(one[7:14]) + block(one[14:] + [0x55]) + TAIL)

    def test_each_name_and_channel(self):
        for name in (0, 1, 255, 256, 511, 512, 768, 1023):
            for channel in (0, 1, 31, 32, 63):
                with self.subTest(name=name, channel=channel):
                    for body in ([5], [5] * 400, [5] * 1017):
                        got = ask(ground(name, channel, 3), send(body), take())[-1]
                        self.assertEqual(got, carried(frame(0, body, name=name, channel=channel)))

    def test_check_bytes(self):
        # Each bit of the seven bytes behind the head once, by bodies of one bit.
        for place in range(56):
            with self.subTest(place=place):
                body = [0, 0] + [(1 << place) >> (8 * k) & 255 for k in range(7)]
                self.assertEqual(ask(ground(0, 0, 1), send(body), take())[-1],
                                 carried(frame(0, body, name=0, channel=0)))


class Order(unittest.TestCase):
    def test_one_behind_another(self):
        got = ask(ground(), *sends(BODIES), *[take()] * 5)[6:]
        self.assertEqual(got, [carried(frame(k, body)) for k, body in enumerate(BODIES)])

    def test_numbers_past_255(self):
        for base in (250, 254, 255):
            with self.subTest(base=base):
                got = ask(ground(), *sends(BODIES), ask_order(base), *[take()] * 5)[7:]
                self.assertEqual(got, [carried(frame((base + k) % 256, body)) for k, body in enumerate(BODIES)])

    def test_numbers_past_255_by_reports(self):
        calls = [ground(window=1), ask_order(200)]
        for k in range(99):
            calls += [send([k]), take(), confirm((201 + k) % 256)]
        got = ask(*calls)
        self.assertEqual(got[3::3], [carried(frame((200 + k) % 256, [k])) for k in range(99)])
        self.assertEqual(got[4::3], [[1]] * 99)

    def test_bodies_come_between(self):
        got = ask(ground(), send([1]), take(), take(), send([2]), take(), send([3]), send([4]), take(), take(), take())
        self.assertEqual(got[2:], [
            carried(frame(0, [1])), [-1], [0], carried(frame(1, [2])), [0], [0], carried(frame(2, [3])),
            carried(frame(3, [4])), [-1]])

    def test_64_bodies(self):
        got = ask(ground(window=64), *[send([k]) for k in range(64)], *[take()] * 65, send([1]))
        self.assertEqual(got[65:], [carried(frame(k, [k])) for k in range(64)] + [[-1], [-1]])


class NoneLeft(unittest.TestCase):
    def test_no_body(self):
        self.assertEqual(ask(ground(), take(), take()), [[0], [-1], [-1]])
        self.assertEqual(ask(ground(), send_refused(0), take(), over(), take()), [[0], [-2], [-1], [0], [-1]])

    def test_all_are_sent(self):
        got = ask(ground(), *sends(BODIES), *[take()] * 7)
        self.assertEqual(got[11:], [[-1], [-1]])

    def test_all_are_confirmed(self):
        got = ask(ground(), send([1]), take(), confirm(1), take(), over(), take())
        self.assertEqual(got[3:], [[1], [-1], [0], [-1]])

    def test_each_window(self):
        for window in (1, 2, 3, 62, 63, 64, 65, 126, 127):
            with self.subTest(window=window):
                got = ask(ground(window=window), *[send([k]) for k in range(64)], *[take()] * 66)[65:]
                may = min(window, 64)
                self.assertEqual(got, [carried(frame(k, [k])) for k in range(may)] + [[-1]] * (66 - may))

    def test_the_window_moves(self):
        got = ask(ground(window=2), *sends(BODIES), *[take()] * 3, confirm(1), take(), take(), confirm(3), take(),
                  take(), take())
        self.assertEqual(got[6:], [
            carried(frame(0, BODIES[0])), carried(frame(1, BODIES[1])), [-1], [1], carried(frame(2, BODIES[2])), [-1],
            [2], carried(frame(3, BODIES[3])), carried(frame(4, BODIES[4])), [-1]])


class Most(unittest.TestCase):
    def test_just_room_enough(self):
        for n in (1, 7, 8, 1017):
            size = len(message(frame(0, [3] * n)))
            for most in (size, size + 1, 65535, 65536):
                with self.subTest(n=n, most=most):
                    self.assertEqual(ask(ground(), send([3] * n), take(most))[-1], carried(frame(0, [3] * n)))

    def test_no_room_then_room(self):
        for n in (1, 7, 8, 1017):
            size = len(message(frame(0, [3] * n)))
            for most in (0, 1, size - 8, size - 1):
                with self.subTest(n=n, most=most):
                    got = ask(ground(), send([3] * n), take(most), take(most), take(size), take(size))
                    self.assertEqual(got[2:], [[-5], [-5], carried(frame(0, [3] * n)), [-1]])

    def test_no_room_sends_nothing(self):
        # Were the second one sent by the refusal, two could be confirmed.
        got = ask(ground(), *sends(BODIES), take(), take(25), confirm(2), confirm(1), take())
        self.assertEqual(got[6:], [carried(frame(0, BODIES[0])), [-5], [-3], [1], carried(frame(1, BODIES[1]))])

    def test_too_much(self):
        for most in TOO_MUCH:
            with self.subTest(most=most):
                got = ask(ground(), send([1]), take(most), confirm(1), take(ALL), take(most))
                self.assertEqual(got[2:], [[-2], [-3], carried(frame(0, [1])), [-2]])

    def test_too_much_comes_before_none(self):
        for most in TOO_MUCH:
            with self.subTest(most=most):
                self.assertEqual(ask(ground(), take(most))[-1], [-2])
                self.assertEqual(ask(ground(window=1), send([1]), send([2]), take(), take(most))[-1], [-2])

    def test_none_comes_before_no_room(self):
        self.assertEqual(ask(ground(), take(0))[-1], [-1])
        self.assertEqual(ask(ground(), send([1]), take(), take(0))[-1], [-1])
        self.assertEqual(ask(ground(window=1), send([1]), send([2]), take(), take(0))[-1], [-1])


class Over(unittest.TestCase):
    def test_the_first_anew(self):
        got = ask(ground(), *sends(BODIES), take(), take(), over(), take(), take(), take())
        first = [carried(frame(k, body)) for k, body in enumerate(BODIES)]
        self.assertEqual(got[6:], first[:2] + [[0]] + first[:3])

    def test_with_nothing_sent(self):
        self.assertEqual(ask(ground(), over(), over()), [[0], [0], [0]])
        got = ask(ground(), *sends(BODIES), over(), take())
        self.assertEqual(got[6:], [[0], carried(frame(0, BODIES[0]))])

    def test_the_window_is_free_again(self):
        got = ask(ground(window=2), *sends(BODIES), take(), take(), take(), over(), take(), take(), take())
        first = [carried(frame(k, BODIES[k])) for k in range(2)]
        self.assertEqual(got[6:], first + [[-1], [0]] + first + [[-1]])

    def test_all_sent(self):
        got = ask(ground(), *sends(BODIES), *[take()] * 6, over(), *[take()] * 6)
        first = [carried(frame(k, body)) for k, body in enumerate(BODIES)] + [[-1]]
        self.assertEqual(got[6:], first + [[0]] + first)

    def test_from_the_base_on(self):
        got = ask(ground(), *sends(BODIES), take(), take(), take(), confirm(1), over(), take())
        self.assertEqual(got[9:], [[1], [0], carried(frame(1, BODIES[1]))])

    def test_the_bodies_stay(self):
        got = ask(ground(window=64), *[send([k]) for k in range(64)], take(), over(), send([1]))
        self.assertEqual(got[-2:], [[0], [-1]])
        self.assertEqual(bodies_left(ground(), *sends(BODIES), take(), take(), over()), list(enumerate(BODIES)))


if __name__ == "__main__":
    unittest.main()
