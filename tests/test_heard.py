"""Promise 7: reports that the ground hears."""

import unittest

from tests.helper import (
    CHANNEL, ask, ask_order, bodies_left, carried, confirm, frame, ground, heard, over, send, take)

BODIES = [[k, 10 * k] for k in range(6)]
SECOND = 4 * CHANNEL


def prepared(sent, window=10, base=0):
    """A ground with all of BODIES, of which so many are sent by now."""
    return [ground(window=window), *[send(body) for body in BODIES], ask_order(base), *[take()] * sent]


def left(confirmed=0, base=0, first=0):
    """The bodies behind the confirmed ones with their numbers, from the first that isn't sent by now on."""
    return [((base + k) % 256, BODIES[k]) for k in range(confirmed + first, len(BODIES))]


class NotBelieved(unittest.TestCase):
    def refused(self, report, sent=3):
        """Asks twice for -3, then for all that a change behind it would show."""
        calls = prepared(sent)
        self.assertEqual(ask(*calls, report, report)[-2:], [[-3], [-3]])
        self.assertEqual(bodies_left(*calls, report), left(first=sent))
        self.assertEqual(bodies_left(*calls, report, over()), left())
        self.assertEqual(ask(*calls, report, confirm(sent + 1))[-1], [-3])
        self.assertEqual(ask(*calls, report, confirm(sent))[-1], [sent])
        self.assertEqual(bodies_left(*calls, report, confirm(1)), left(first=sent))

    def test_the_first_byte(self):
        for first in (0, 2, 3, 5, 129, 255):
            for number in (0, 2):
                with self.subTest(first=first, number=number):
                    self.refused(heard(first, SECOND, 0, number))

    def test_the_second_byte(self):
        for second in (0, SECOND - 4, SECOND - 1, SECOND + 1, SECOND + 2, SECOND + 3, SECOND + 4, CHANNEL, 255):
            for number in (0, 2):
                with self.subTest(second=second, number=number):
                    self.refused(heard(1, second, 0, number))

    def test_each_second_byte(self):
        for channel in (0, 1, 32, 63):
            calls = [ground(channel=channel), send([1]), take()]
            for second in range(256):
                with self.subTest(channel=channel, second=second):
                    answer = 1 if second == 4 * channel else -3
                    self.assertEqual(ask(*calls, heard(1, second, 0, 1))[-1], [answer])

    def test_locked(self):
        for marks in (32, 34, 40, 48, 56, 62, 255):
            for number in (0, 2):
                with self.subTest(marks=marks, number=number):
                    self.refused(confirm(number, marks))

    def test_each_third_byte(self):
        for marks in range(256):
            with self.subTest(marks=marks):
                answer = -3 if marks // 32 % 2 == 1 else 2
                self.assertEqual(ask(*prepared(3), confirm(2, marks))[-1], [answer])

    def test_more_than_ever_were_sent(self):
        for sent in range(7):
            for number in (sent + 1, 7, 100, 128, 200, 255):
                with self.subTest(sent=sent, number=number):
                    self.refused(confirm(number), sent)
                    self.refused(confirm(number, 8), sent)

    def test_each_number(self):
        for base in (0, 1, 100, 253, 255):
            for number in range(256):
                d = (number - base) % 256
                with self.subTest(base=base, number=number):
                    answer = d if d <= 3 else -3
                    self.assertEqual(ask(*prepared(3, base=base), confirm(number))[-1], [answer])

    def test_nothing_sent(self):
        self.assertEqual(ask(ground(), confirm(0), confirm(1), confirm(255)), [[0], [0], [-3], [-3]])

    def test_confirmed_ones_are_no_longer_there(self):
        # Three were sent, two of them are gone: only one more can be confirmed.
        got = ask(*prepared(3), confirm(2), confirm(4), confirm(5), confirm(3), confirm(4))[-5:]
        self.assertEqual(got, [[2], [-3], [-3], [1], [-3]])

    def test_a_report_of_before(self):
        got = ask(*prepared(3), confirm(2), confirm(1), confirm(0), confirm(2))[-4:]
        self.assertEqual(got, [[2], [-3], [-3], [0]])


class Confirmed(unittest.TestCase):
    def test_each_d(self):
        for base in (0, 7, 252, 255):
            for sent in range(7):
                for d in range(sent + 1):
                    with self.subTest(base=base, sent=sent, d=d):
                        calls = prepared(sent, base=base) + [confirm((base + d) % 256)]
                        self.assertEqual(ask(*calls)[-1], [d])
                        self.assertEqual(bodies_left(*calls), left(d, base, sent - d))
                        self.assertEqual(bodies_left(*calls, over()), left(d, base))

    def test_none(self):
        got = ask(*prepared(2), confirm(0), confirm(0), take())[-3:]
        self.assertEqual(got, [[0], [0], carried(frame(2, BODIES[2]))])

    def test_some_then_the_others(self):
        got = ask(*prepared(5), confirm(2), confirm(3), confirm(3), confirm(5), confirm(6), take(), confirm(6))[-7:]
        self.assertEqual(got, [[2], [1], [0], [2], [-3], carried(frame(5, BODIES[5])), [1]])

    def test_all(self):
        got = ask(*prepared(6), confirm(6), take(), confirm(6), confirm(7), send([9]), confirm(7), take(), confirm(7))
        self.assertEqual(got[-8:], [[6], [-1], [0], [-3], [0], [-3], carried(frame(6, [9])), [1]])

    def test_64(self):
        calls = [ground(window=127), *[send([k]) for k in range(64)], *[take()] * 64]
        got = ask(*calls, confirm(65), confirm(64), take(), send([7]), take(), confirm(65))[-6:]
        self.assertEqual(got, [[-3], [64], [-1], [0], carried(frame(64, [7])), [1]])

    def test_there_is_place_again(self):
        calls = [ground(window=127), *[send([k]) for k in range(64)], *[take()] * 3, confirm(2)]
        got = ask(*calls, send([1]), send([2]), send([3]))[-4:]
        self.assertEqual(got, [[2], [0], [0], [-1]])
        self.assertEqual([body for number, body in bodies_left(*calls, send([1]), send([2]), over())],
                         [[k] for k in range(2, 64)] + [[1], [2]])

    def test_the_window_is_free_by_those_confirmed(self):
        got = ask(*prepared(3, window=3), take(), confirm(2), take(), take(), take())[-5:]
        self.assertEqual(got, [[-1], [2], carried(frame(3, BODIES[3])), carried(frame(4, BODIES[4])), [-1]])

    def test_other_marks_count_for_nothing(self):
        for marks in (0, 1, 2, 4, 6, 16, 22, 64, 128, 215):
            with self.subTest(marks=marks):
                calls = prepared(4) + [confirm(1, marks)]
                self.assertEqual(ask(*calls)[-1], [1])
                self.assertEqual(bodies_left(*calls), left(1, first=3))


class ToComeAgain(unittest.TestCase):
    def test_none_is_sent_by_now(self):
        for marks in (8, 9, 14, 24, 30, 223):
            for d in range(5):
                with self.subTest(marks=marks, d=d):
                    calls = prepared(4) + [confirm(d, marks)]
                    self.assertEqual(ask(*calls)[-1], [d])
                    self.assertEqual(bodies_left(*calls), left(d))

    def test_they_were_sent_all_the_same(self):
        for d in range(5):
            with self.subTest(d=d):
                calls = prepared(4) + [confirm(d, 8)]
                self.assertEqual(ask(*calls, confirm(5))[-1], [-3])
                self.assertEqual(ask(*calls, confirm(4))[-1], [4 - d])
                self.assertEqual(bodies_left(*calls, confirm(4)), left(4))

    def test_the_window_is_free(self):
        got = ask(*prepared(2, window=2), take(), confirm(0, 8), take(), take(), take())[-5:]
        again = [carried(frame(k, BODIES[k])) for k in range(2)]
        self.assertEqual(got, [[-1], [0]] + again + [[-1]])


class BehindAnOver(unittest.TestCase):
    def test_more_than_are_sent_by_now(self):
        for again in range(5):
            for d in range(5):
                with self.subTest(again=again, d=d):
                    calls = prepared(4) + [over()] + [take()] * again + [confirm(d)]
                    self.assertEqual(ask(*calls)[-1], [d])
                    self.assertEqual(bodies_left(*calls), left(d, first=max(again - d, 0)))

    def test_those_ever_sent_stay_counted(self):
        for again in range(5):
            with self.subTest(again=again):
                calls = prepared(4) + [over()] + [take()] * again
                self.assertEqual(ask(*calls, confirm(5))[-1], [-3])
                self.assertEqual(ask(*calls, confirm(1), over(), confirm(4), confirm(5))[-4:], [[1], [0], [3], [-3]])

    def test_one_more_than_ever(self):
        got = ask(*prepared(2), over(), take(), take(), confirm(3), take(), confirm(3))[-3:]
        self.assertEqual(got, [[-3], carried(frame(2, BODIES[2])), [3]])

    def test_the_window_behind_it(self):
        # 0 at least: were it fewer, the window would hold more than two.
        got = ask(*prepared(2, window=2), over(), confirm(2), take(), take(), take())[-4:]
        self.assertEqual(got, [[2], carried(frame(2, BODIES[2])), carried(frame(3, BODIES[3])), [-1]])


if __name__ == "__main__":
    unittest.main()
