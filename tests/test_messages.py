"""Promise 2, the bits: where a message begins, its blocks, and where it ends."""

import unittest
from itertools import combinations

from tests.helper import (
    BEGINNING, TAIL, ask, bits_of, block, blocks, bytes_of, craft, frame, give, given, hear, hear_frames,
    hear_too_much, message, packet, packets_after, past, report, status, turned)

ONE = frame(0, packet([1, 2, 3]))
SENT = message(ONE)


def heard(data):
    """What a new craft reports when it heard these bytes."""
    return ask(craft(), hear(data), report())[-1]


class Written(unittest.TestCase):
    """Whole messages, number by number."""

    def test_a_message(self):
        # Name 0, channel 0, number 0, past the order: the packet 1, 2, 3 on list 0.
        sent = [0xEB, 0x90, 0x20, 0x00, 0x00, 0x0A, 0x00, 0xC0, 0x01, 0x40, 0x02, 0x03, 0xEB, 0x19, 0x55, 0x55,
                0x55, 0x0E, 0xC5, 0xC5, 0xC5, 0xC5, 0xC5, 0xC5, 0xC5, 0x79]
        self.assertEqual(message(past(packet([1, 2, 3]), name=0, channel=0)), sent)
        got = ask(craft(0, 0, 1), hear(sent), report(), give())
        self.assertEqual(got[1:], [[0], [0, 1, 0, 2, 0], [4, 0, 1, 2, 3]])

    def test_blocks(self):
        # Of 56 bits 0 nothing is left over; of the lowest alone x^6 + x^2 + 1.
        self.assertEqual(block([0] * 7), [0] * 7 + [0xFE])
        self.assertEqual(block([0] * 6 + [1]), [0] * 6 + [1, 0x74])


class Asked(unittest.TestCase):
    def test_none(self):
        self.assertEqual(ask(craft(), hear([]), report()), [[0], [0], status()])

    def test_none_within_a_message(self):
        got = ask(craft(), hear(SENT[:9]), hear([]), hear(SENT[9:]), hear([]), report())
        self.assertEqual(got, [[0]] * 5 + [status(1)])

    def test_above(self):
        for n in (65537, 65538, 70000, 131072, 2147483648, 4294967295):
            with self.subTest(n=n):
                got = ask(craft(), hear(SENT[:9]), hear_too_much(n), hear(SENT[9:]), report(), give())
                self.assertEqual(got[2:], [[-2], [0], status(1), given([1, 2, 3])])

    def test_many(self):
        got = ask(craft(), hear([0] * (29000 - len(SENT)) + SENT), report())
        self.assertEqual(got, [[0], [0], status(1)])

    def test_noise_and_several_messages(self):
        noise = [(k * k * 7 + k * 3) % 251 for k in range(300)]
        data = noise + SENT + [0] * 3 + message(frame(1, packet([9]))) + message(frame(2, packet([])))
        self.assertEqual(packets_after(craft(), hear(data)), [(0, [1, 2, 3]), (0, [9]), (0, [])])


class Beginning(unittest.TestCase):
    def test_at_any_bit(self):
        for shift in range(40):
            for sign in "01":
                with self.subTest(shift=shift, sign=sign):
                    self.assertEqual(heard(bytes_of(sign * shift + bits_of(SENT))), status(1))

    def test_in_several_calls(self):
        for shift in (0, 3):
            data = bytes_of("0" * shift + bits_of(SENT) + "0" * 8)
            for cut in range(len(data)):
                with self.subTest(shift=shift, cut=cut):
                    got = ask(craft(), hear(data[:cut]), report(), hear(data[cut:]), report())
                    self.assertEqual(got[-1], status(1))

    def test_byte_by_byte(self):
        got = ask(craft(), *([hear([byte]) for byte in SENT] + [report(), give()]))
        self.assertEqual(got[-2:], [status(1), given([1, 2, 3])])

    def test_one_bit_wrong(self):
        for place in range(16):
            with self.subTest(place=place):
                self.assertEqual(heard(turned(SENT, place)), status(1))
                self.assertEqual(heard([0, 0] + turned(SENT, place)), status(1))

    def test_two_bits_wrong(self):
        for places in combinations(range(16), 2):
            with self.subTest(places=places):
                self.assertEqual(heard(turned(SENT, *places)), status())

    def test_more_bits_wrong(self):
        self.assertEqual(heard(turned(SENT, 0, 7, 15)), status())
        self.assertEqual(heard(turned(SENT, *range(16))), status())

    def test_not_ahead_of_sixteen_bits(self):
        # Were bits of 0 ahead of the first one counted, one of sixteen would be wrong.
        self.assertEqual(heard(bytes_of(bits_of(SENT)[1:])), status())
        self.assertEqual(heard(bytes_of("0" + bits_of(SENT)[1:])), status(1))

    def test_not_ahead_of_sixteen_bits_of_a_craft_anew(self):
        got = ask(craft(), hear([0xFF]), craft(), hear(bytes_of(bits_of(SENT)[1:])), report())
        self.assertEqual(got[-1], status())

    def test_from_where_it_began_to_look(self):
        # A block beyond mending whose last byte is the beginning's first, or all but its first bit.
        for ending, lacking in ((0xEB, 8), (0x75, 7), (0x3A, 6), (0xFF, 1), (0x01, 1), (0x03, 2)):
            bad = [k for k in range(256) if ends_message([k] + [0] * 6 + [ending])]
            data = BEGINNING + [bad[0]] + [0] * 6 + [ending]
            with self.subTest(ending=ending):
                rest = bytes_of(bits_of(SENT)[lacking:])
                self.assertEqual(heard(data + rest), status())
                self.assertEqual(heard(data + SENT), status(1))

    def test_it_looks_right_behind_the_tail(self):
        # The tail's last bit is 1, as the beginning's first.
        second = message(frame(1, packet([4])))
        self.assertEqual(heard(SENT + second), status(2))
        self.assertEqual(heard(SENT + turned(second, 0)), status(2))
        self.assertEqual(heard(bytes_of(bits_of(SENT) + bits_of(second)[1:])), status(1))

    def test_no_beginning_within_a_message(self):
        inner = message(frame(0, packet([6])))
        first = frame(0, packet([0xEB, 0x90] * 20 + inner, 2))
        self.assertEqual(packets_after(craft(), hear(message(first))), [(2, [0xEB, 0x90] * 20 + inner)])


def ends_message(eight):
    """Whether these eight bytes are right with no one of 63 bits turned, nor as they are."""
    for places in [()] + [(place,) for place in range(63)]:
        data = turned(eight, *places)
        if block(data[:7])[7] // 2 == data[7] // 2:
            return False
    return True


class Blocks(unittest.TestCase):
    def test_each_bit_turned(self):
        for first in range(16, len(SENT) * 8 - 64, 64):
            for place in range(first, first + 64):
                with self.subTest(place=place):
                    got = ask(craft(), hear(turned(SENT, place)), report(), give())
                    self.assertEqual(got[2:], [status(1), given([1, 2, 3])])

    def test_one_bit_of_each_block(self):
        body = packet([(k * 11) % 256 for k in range(500)], 9)
        data = message(frame(0, body))
        for step in range(63):
            places = [first + (first // 64 * 5 + step) % 63 for first in range(16, len(data) * 8 - 64, 64)]
            self.assertEqual(packets_after(craft(), hear(turned(data, *places))), [(9, body[1:])])

    def test_the_last_bit_counts_for_nothing(self):
        for place in range(63):
            with self.subTest(place=place):
                self.assertEqual(heard(turned(SENT, 16 + 63, 16 + place)), status(1))

    def test_beyond_mending(self):
        # With two bits turned there's no one bit that mends it: the frames ahead of that block count.
        two = frame(1, packet([5] * 30))
        lead = past([])
        data = message(lead, two)
        places = [(first, second) for first, second in combinations(range(80, 143), 2) if first % 7 == 3]
        for first, second in places:
            with self.subTest(first=first, second=second):
                got = ask(craft(), hear(turned(data, first, second)), report())
                self.assertEqual(got[-1], status(0, 1))
        self.assertGreater(len(places), 200)

    def test_beyond_mending_ends_it_at_once(self):
        cut = BEGINNING + blocks(past([]))
        bad = turned(blocks([1, 2, 3, 4, 5, 6, 7]), 3, 60)
        got = ask(craft(), hear(cut), report(), hear(bad[:7]), report(), hear(bad[7:]), report())
        self.assertEqual(got[2::2], [status(), status(), status(0, 1)])

    def test_looks_anew_behind_a_bad_block(self):
        lead = message(past([]), frame(0, packet([5] * 10)))
        bad = turned(lead, 81, 99)[:2 + 16]
        self.assertEqual(heard(bad + SENT), status(1, 1))

    def test_blocks_behind_a_bad_one_do_not_count(self):
        data = BEGINNING + turned(block([0x55] * 7), 1, 2) + blocks(ONE) + TAIL
        self.assertEqual(heard(data), status())

    def test_the_tail_is_beyond_mending(self):
        self.assertTrue(ends_message(TAIL))
        self.assertEqual(heard(SENT[:-1]), status())
        self.assertEqual(heard(SENT[:-8]), status())
        self.assertEqual(heard(SENT), status(1))
        self.assertEqual(heard(turned(SENT, len(SENT) * 8 - 1)), status(1))

    def test_a_turned_tail_ends_it_or_not(self):
        for place in range(63):
            eight = turned(TAIL, place)
            expected = status(1) if ends_message(eight) else status()
            with self.subTest(place=place):
                self.assertEqual(heard(SENT[:-8] + eight), expected)
                self.assertEqual(heard(SENT[:-8] + eight + TAIL)[3:], status(1)[3:])

    def test_a_message_without_blocks(self):
        self.assertEqual(heard(BEGINNING + TAIL), status())
        self.assertEqual(heard(BEGINNING + TAIL + SENT), status(1))


class Longest(unittest.TestCase):
    LEAD = past(packet([1]))

    def filled(self, count):
        """So many blocks, with a good frame at the beginning."""
        return BEGINNING + blocks(self.LEAD + [0x55] * (7 * count - len(self.LEAD)))

    def test_4095_bytes(self):
        data = self.filled(585)
        self.assertEqual(len(data), 2 + 585 * 8)
        self.assertEqual(heard(data), status())
        self.assertEqual(heard(data + TAIL), status(0, 1))

    def test_frames_up_to_the_last_byte(self):
        frames = [frame(k, packet([k] * 1016, k)) for k in range(3)] + [frame(3, packet([3] * 1015, 3))]
        data = message(*frames)
        self.assertEqual(len(data), 2 + 585 * 8 + 8)
        expected = [(k, [k] * 1016) for k in range(3)] + [(3, [3] * 1015)]
        self.assertEqual(packets_after(craft(), hear(data)), expected)

    def test_a_block_more(self):
        data = self.filled(586)
        got = ask(craft(), hear(data + TAIL), report(), give(), hear_frames(ONE), report())
        self.assertEqual(got[2:], [status(), [-1], [0], status(1)])

    def test_a_mended_block_more(self):
        self.assertEqual(heard(turned(self.filled(586), 16 + 585 * 64 + 30) + TAIL), status())

    def test_a_bad_block_more(self):
        bad = turned(self.filled(586), 16 + 585 * 64 + 30, 16 + 585 * 64 + 50)
        self.assertEqual(heard(bad), status(0, 1))

    def test_looks_anew_right_behind_it(self):
        self.assertEqual(heard(self.filled(586) + SENT), status(1))
        self.assertEqual(heard(self.filled(585) + SENT), status())

    def test_many_blocks_more(self):
        self.assertEqual(heard(self.filled(1300) + TAIL), status())

    def test_each_message_by_itself(self):
        data = self.filled(400) + TAIL
        self.assertEqual(heard(data + data + data), status(0, 3))
        data = self.filled(586) + self.filled(500) + TAIL
        self.assertEqual(heard(data), status(0, 1))


if __name__ == "__main__":
    unittest.main()
