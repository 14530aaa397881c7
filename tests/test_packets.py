"""Promises 2 and 4: pieces of packets put together, and the packets given."""

import unittest

from tests.helper import (
    UNLOCK, ask, craft, frame, full, give, given, hear_frames, lock, packet, packets_after, past, report,
    set_number, status)

FIRST = 0x40
BETWEEN = 0x00
LAST = 0x80


def taken(*bodies):
    """The packets that wait when these bodies were taken, past the order."""
    return packets_after(craft(), *[hear_frames(past(body)) for body in bodies])


class Pieces(unittest.TestCase):
    def test_whole(self):
        self.assertEqual(taken(packet([1, 2, 3], 7)), [(7, [1, 2, 3])])

    def test_each_list(self):
        for k in range(64):
            with self.subTest(k=k):
                self.assertEqual(taken(packet([k], k)), [(k, [k])])
                self.assertEqual(taken([FIRST + k, 1], [BETWEEN + k, 2], [LAST + k, 3]), [(k, [1, 2, 3])])

    def test_first_and_last(self):
        self.assertEqual(taken([FIRST + 5, 1, 2], [LAST + 5, 3]), [(5, [1, 2, 3])])

    def test_many_between(self):
        bodies = [[FIRST, 0]] + [[BETWEEN, k] for k in range(1, 100)] + [[LAST, 100]]
        self.assertEqual(taken(*bodies), [(0, list(range(101)))])

    def test_not_whole_yet(self):
        self.assertEqual(taken([FIRST, 1]), [])
        self.assertEqual(taken([FIRST, 1], [BETWEEN, 2]), [])

    def test_without_a_first_one(self):
        self.assertEqual(taken([LAST, 1]), [])
        self.assertEqual(taken([BETWEEN, 1]), [])
        self.assertEqual(taken([BETWEEN, 1], [LAST, 2]), [])
        self.assertEqual(taken([BETWEEN, 1], [FIRST, 2], [LAST, 3]), [(0, [2, 3])])
        self.assertEqual(taken([LAST, 1], [FIRST, 2], [LAST, 3]), [(0, [2, 3])])

    def test_on_another_list(self):
        self.assertEqual(taken([FIRST + 1, 1], [LAST + 2, 2]), [])
        self.assertEqual(taken([FIRST + 1, 1], [BETWEEN + 2, 2], [LAST + 1, 3]), [(1, [1, 3])])
        self.assertEqual(taken([FIRST + 1, 1], [LAST + 2, 2], [LAST + 1, 3]), [(1, [1, 3])])

    def test_lists_beside_one_another(self):
        bodies = [
            [FIRST + 1, 1], [FIRST + 2, 10], [BETWEEN + 1, 2], [FIRST + 63, 100], packet([50], 3), [BETWEEN + 2, 20],
            [LAST + 2, 30], [LAST + 63, 101], [LAST + 1, 3]]
        self.assertEqual(taken(*bodies), [(3, [50]), (2, [10, 20, 30]), (63, [100, 101]), (1, [1, 2, 3])])

    def test_all_lists_at_once(self):
        got = [hear_frames(*[past([FIRST + k, k]) for k in range(64)])]
        for k in range(64):
            got += [hear_frames(past([LAST + k, 200])), give()]
        answers = ask(craft(), *got)
        self.assertEqual(answers[3::2], [given([k, 200], k) for k in range(64)])

    def test_gone_when_it_is_whole(self):
        self.assertEqual(taken([FIRST, 1], [LAST, 2], [LAST, 3]), [(0, [1, 2])])
        self.assertEqual(taken([FIRST, 1], [LAST, 2], [BETWEEN, 3], [LAST, 4]), [(0, [1, 2])])

    def test_a_first_one_anew(self):
        self.assertEqual(taken([FIRST, 1], [FIRST, 2], [LAST, 3]), [(0, [2, 3])])
        self.assertEqual(taken([FIRST, 1], [BETWEEN, 9], [FIRST, 2], [LAST, 3]), [(0, [2, 3])])

    def test_a_first_one_of_another_list_forgets_nothing(self):
        self.assertEqual(taken([FIRST, 1], [FIRST + 1, 2], [LAST, 3]), [(0, [1, 3])])

    def test_a_packet_forgets_the_pieces(self):
        self.assertEqual(taken([FIRST, 1], packet([7]), [LAST, 3]), [(0, [7])])
        self.assertEqual(taken([FIRST, 1], packet([7]), [BETWEEN, 2], [LAST, 3]), [(0, [7])])

    def test_a_packet_of_another_list_forgets_nothing(self):
        self.assertEqual(taken([FIRST, 1], packet([7], 1), [LAST, 3]), [(1, [7]), (0, [1, 3])])

    def test_an_empty_body(self):
        self.assertEqual(taken([]), [])
        self.assertEqual(taken([FIRST, 1], [], [LAST, 2]), [(0, [1, 2])])

    def test_no_bytes_behind_the_first(self):
        self.assertEqual(taken(packet([], 4)), [(4, [])])
        self.assertEqual(taken([FIRST], [LAST]), [(0, [])])
        self.assertEqual(taken([FIRST], [BETWEEN], [LAST, 3]), [(0, [3])])
        self.assertEqual(taken([FIRST, 1], [BETWEEN], [LAST]), [(0, [1])])

    def test_in_the_order_and_past_it(self):
        got = packets_after(craft(), hear_frames(frame(0, [FIRST, 1]), past([BETWEEN, 2]), frame(1, [LAST, 3])))
        self.assertEqual(got, [(0, [1, 2, 3])])

    def test_pieces_stay_while_locked_and_opened(self):
        got = packets_after(
            craft(), hear_frames(past([FIRST, 1]), lock(), past([BETWEEN, 2]), UNLOCK, set_number(4), past([LAST, 3])))
        self.assertEqual(got, [(0, [1, 2, 3])])


class Longest(unittest.TestCase):
    def pieces(self, *sizes):
        """Pieces of these sizes, the first a first one, the others between."""
        return [[FIRST if k == 0 else BETWEEN] + [k + 1] * size for k, size in enumerate(sizes)]

    def test_4096_together(self):
        bodies = self.pieces(1016, 1016, 1016, 1016)
        whole = [1] * 1016 + [2] * 1016 + [3] * 1016 + [4] * 1016
        self.assertEqual(taken(*bodies, [LAST] + [9] * 32), [(0, whole + [9] * 32)])
        self.assertEqual(taken(*bodies, [BETWEEN] + [9] * 32, [LAST]), [(0, whole + [9] * 32)])

    def test_more_by_the_last(self):
        bodies = self.pieces(1016, 1016, 1016, 1016)
        self.assertEqual(taken(*bodies, [LAST] + [9] * 33), [])
        self.assertEqual(taken(*bodies, [BETWEEN] + [9] * 32, [LAST, 1]), [])

    def test_more_by_one_between(self):
        bodies = self.pieces(1016, 1016, 1016, 1016, 33)
        self.assertEqual(taken(*bodies, [LAST]), [])
        self.assertEqual(taken(*bodies, [LAST, 1]), [])
        self.assertEqual(taken(*bodies, [BETWEEN, 1], [LAST, 1]), [])

    def test_what_is_there_is_forgotten(self):
        bodies = self.pieces(1016, 1016, 1016, 1016)
        self.assertEqual(taken(*bodies, [LAST] + [9] * 33, [LAST, 1]), [])
        self.assertEqual(taken(*bodies, [LAST] + [9] * 33, [BETWEEN, 1], [LAST, 2]), [])
        self.assertEqual(taken(*bodies, [BETWEEN] + [9] * 33, [FIRST, 1], [LAST, 2]), [(0, [1, 2])])

    def test_each_list_by_itself(self):
        bodies = self.pieces(1016, 1016, 1016, 1016)
        other = [[body[0] + 1] + body[1:] for body in bodies]
        got = taken(*bodies, *other, [LAST] + [9] * 33, [LAST + 1, 9])
        self.assertEqual([(k, len(data)) for k, data in got], [(1, 4065)])

    def test_a_first_one_anew_counts_alone(self):
        bodies = self.pieces(1016, 1016, 1016, 1016)
        got = taken(*bodies, *bodies, [LAST] + [9] * 32)
        self.assertEqual([(k, len(data)) for k, data in got], [(0, 4096)])


class Room(unittest.TestCase):
    def test_a_ninth_by_its_last_piece_is_lost(self):
        got = packets_after(craft(), hear_frames(past([FIRST + 9, 1])), hear_frames(*full()),
                            hear_frames(past([LAST + 9, 2])))
        self.assertEqual(got, [(k, [k]) for k in range(8)])

    def test_its_pieces_are_lost_too(self):
        got = ask(
            craft(), hear_frames(past([FIRST + 9, 1])), hear_frames(*full()), hear_frames(past([LAST + 9, 2])),
            *[give()] * 8, hear_frames(past([LAST + 9, 3])), give())
        self.assertEqual(got[-1], [-1])

    def test_pieces_need_no_room_past_the_order(self):
        got = ask(
            craft(), hear_frames(*full()), hear_frames(past([FIRST + 9, 1]), past([BETWEEN + 9, 2])), give(),
            hear_frames(past([LAST + 9, 3])), *[give()] * 9)
        self.assertEqual(got[5:], [given([k], k) for k in range(1, 8)] + [given([1, 2, 3], 9), [-1]])

    def test_a_lost_packet_forgets_the_pieces(self):
        got = ask(
            craft(), hear_frames(past([FIRST + 9, 1])), hear_frames(*full()), hear_frames(past(packet([5], 9))),
            *[give()] * 8, hear_frames(past([LAST + 9, 3])), give())
        self.assertEqual(got[-1], [-1])

    def test_room_again_by_each_given(self):
        calls = [hear_frames(*full())]
        for k in range(20):
            calls += [give(), hear_frames(past(packet([100 + k], 9)), past(packet([200 + k], 9)))]
        got = ask(craft(), *calls, *[give()] * 9)
        order = [given([k], k) for k in range(8)] + [given([100 + k], 9) for k in range(20)]
        self.assertEqual(got[2:42:2] + got[42:], order + [[-1]])

    def test_eight_packets_without_bytes(self):
        got = ask(craft(), hear_frames(*[past(packet([], k)) for k in range(9)]), *[give()] * 9)
        self.assertEqual(got[2:], [given([], k) for k in range(8)] + [[-1]])


class Give(unittest.TestCase):
    def test_the_longest_waiting_first(self):
        got = ask(
            craft(), hear_frames(past(packet([1], 9)), past(packet([2], 1))), give(),
            hear_frames(past(packet([3], 0))), give(), give(), give())
        self.assertEqual(got[2:3] + got[4:], [given([1], 9), given([2], 1), given([3], 0), [-1]])

    def test_by_when_they_were_whole(self):
        got = packets_after(craft(), hear_frames(past([FIRST, 1]), past(packet([2], 1)), past([LAST, 3])))
        self.assertEqual(got, [(1, [2]), (0, [1, 3])])

    def test_none_waits(self):
        self.assertEqual(ask(craft(), give(), give(0), give(65536)), [[0], [-1], [-1], [-1]])

    def test_most(self):
        got = ask(
            craft(), hear_frames(past(packet([1, 2, 3], 9))), give(0), give(1), give(2), give(3), give(4), give(4))
        self.assertEqual(got[2:], [[-5]] * 4 + [[4, 9, 1, 2, 3], [-1]])

    def test_most_without_bytes(self):
        got = ask(craft(), hear_frames(past(packet([], 9))), give(0), give(1), give(1))
        self.assertEqual(got[2:], [[-5], [1, 9], [-1]])

    def test_most_of_the_longest(self):
        bodies = [[FIRST] + [1] * 1016] + [[BETWEEN] + [1] * 1016] * 3 + [[LAST] + [1] * 32]
        got = ask(craft(), *[hear_frames(past(body)) for body in bodies], give(4096), give(4097))
        self.assertEqual(got[-2:], [[-5], given([1] * 4096)])

    def test_most_above(self):
        for most in (65537, 65538, 100000, 2147483648, 4294967295):
            with self.subTest(most=most):
                got = ask(craft(), give(most), hear_frames(past(packet([1]))), give(most), give(65536), give(most))
                self.assertEqual(got[1:], [[-2], [0], [-2], given([1]), [-2]])

    def test_most_is_of_the_first_alone(self):
        got = ask(craft(), hear_frames(past(packet([1, 2])), past(packet([3]))), give(2), give(3), give(2))
        self.assertEqual(got[2:], [[-5], given([1, 2]), given([3])])

    def test_a_waiting_craft_is_open_then(self):
        got = ask(
            craft(), hear_frames(*full()), hear_frames(frame(0, packet([1]))), report(), give(), report(),
            hear_frames(frame(1, [1])), report(), hear_frames(frame(0, packet([1]))), report())
        self.assertEqual(got[3::2], [
            status(wait=True, again=True), status(again=True), status(again=True), status(1)])

    def test_refused_it_waits_still(self):
        for most, answer in ((0, [-5]), (1, [-5]), (65537, [-2]), (4294967295, [-2])):
            with self.subTest(most=most):
                got = ask(
                    craft(), hear_frames(*full()), hear_frames(frame(0, packet([1]))), give(most), report(),
                    hear_frames(frame(0, packet([1]))), report(), *[give()] * 9)
                self.assertEqual(got[3], answer)
                self.assertEqual(got[4:7:2], [status(wait=True, again=True)] * 2)
                self.assertEqual(got[7:], [given([k], k) for k in range(8)] + [[-1]])

    def test_a_locked_craft_stays_locked(self):
        got = ask(craft(), hear_frames(past(packet([1])), lock()), give(), report())
        self.assertEqual(got[2:], [given([1]), status(0, 1, locked=True)])

    def test_locked_while_it_waited(self):
        got = ask(
            craft(), hear_frames(*full()), hear_frames(frame(0, packet([1])), lock()), report(), give(), report(),
            hear_frames(frame(0, packet([1]))), report())
        self.assertEqual(got[3::2], [
            status(locked=True, wait=True, again=True), status(locked=True, again=True),
            status(locked=True, again=True)])

    def test_none_to_give_leaves_all(self):
        got = ask(craft(), hear_frames(frame(0, [1]), frame(3, [1]), past([])), give(), report())
        self.assertEqual(got[2:], [[-1], status(1, 1, again=True)])


if __name__ == "__main__":
    unittest.main()
