"""The calls as a whole: -9, what is handed in and given back, and that nothing is kept."""

import contextlib
import io
import unittest

from farcraft.commands import answers
from tests.helper import (
    ask, ask_order, ask_past, ask_past_refused, bodies_left, carried, confirm, craft, frame, full, give, given, ground,
    hear, hear_frames, hear_too_much, heard, lock, message, order, over, packet, past, report, send, send_refused,
    status, take)


class OtherKind(unittest.TestCase):
    def test_a_ground_is_no_craft(self):
        calls = [
            hear([]), hear([1, 2]), hear_frames(frame(0, packet([1]))), hear_too_much(65537),
            hear_too_much(4294967295), report(), give(), give(0), give(65536), give(65537), give(4294967295)]
        for call in calls:
            with self.subTest(call=call[:3]):
                self.assertEqual(ask(ground(), call), [[0], [-9]])
        self.assertEqual(ask(ground(), *calls), [[0]] + [[-9]] * len(calls))

    def test_a_craft_is_no_ground(self):
        calls = [send([1]), send([1] * 1017)] + [send_refused(n) for n in (0, 1018, 65536, 4294967295)]
        for call in calls:
            with self.subTest(call=call[:3]):
                self.assertEqual(ask(craft(), call), [[0], [-9]])
        self.assertEqual(ask(craft(), *calls), [[0]] + [[-9]] * len(calls))

    def test_a_craft_has_no_messages_to_send(self):
        calls = [take(most) for most in (0, 26, 65536, 65537, 4294967295)]
        calls += [confirm(0), confirm(1), confirm(0, 8), confirm(0, 32), heard(0, 0, 0, 0), heard(255, 255, 255, 255)]
        calls += [over()]
        calls += [ask_order(v, most) for v in (-1, 0, 255, 256, 257) for most in (0, 26, 65536, 65537)]
        calls += [ask_past(body, most) for body in ([1], [1] * 1017) for most in (0, 26, 65536, 65537)]
        calls += [ask_past_refused(n, most) for n in (0, 1018, 4294967295) for most in (0, 65536, 65537)]
        for call in calls:
            with self.subTest(call=call[:3]):
                self.assertEqual(ask(craft(), call), [[0], [-9]])
        self.assertEqual(ask(craft(), *calls), [[0]] + [[-9]] * len(calls))

    def test_the_craft_is_as_it_was_behind_a_ground_s_calls(self):
        heard_so_far = message(frame(0, packet([7])), past([0x41, 1]), frame(2, packet([8])))
        calls = [take(), confirm(1), over(), ask_order(9), ask_order(256), ask_past(packet([3]))]
        got = ask(craft(), hear(heard_so_far[:5]), *calls, hear(heard_so_far[5:]), *calls, report(), give(), give())
        self.assertEqual(got[2:], [[-9]] * 6 + [[0]] + [[-9]] * 6 + [status(1, 1, again=True), given([7]), [-1]])

    def test_a_ground_with_sent_ones_is_as_it_was(self):
        sent = [ground(), send([1]), send([2]), send([3]), take(), take(), hear(message(order([0]))), report(), give(),
                hear_too_much(65537), give(65537)]
        self.assertEqual(ask(*sent, confirm(3), confirm(2))[-7:], [[-9]] * 5 + [[-3], [2]])
        self.assertEqual(bodies_left(*sent), [(2, [3])])

    def test_the_ground_is_as_it_was(self):
        calls = [hear_frames(frame(0, packet([1]))), report(), give()]
        got = ask(ground(), *[send([1])] * 63, *calls, send([1]), *calls, send([1]), *calls)
        self.assertEqual(got[64:], [[-9]] * 3 + [[0]] + [[-9]] * 3 + [[-1]] + [[-9]] * 3)

    def test_the_craft_is_as_it_was(self):
        sent = message(frame(0, packet([7])))
        got = ask(craft(), hear(sent[:5]), send([1]), hear(sent[5:]), send_refused(0), report(), send([2]), give())
        self.assertEqual(got[2:], [[-9], [0], [-9], status(1), [-9], given([7])])

    def test_the_other_kind_with_a_full_one_before(self):
        got = ask(ground(), *[send([1])] * 64, craft(), send([1]), hear_frames(*full()), ground(), give(0))
        self.assertEqual(got[65:], [[0], [-9], [0], [0], [-9]])


LINE = [
    craft(5, 6, 7), hear(message(frame(0, packet([1, 2], 3), name=5, channel=6))), report(), give(0), give(2), give(3),
    hear_too_much(65537), report(), give(3), give(65537), send([1]), craft(1024, 0, 1), report(), ground(0, 0, 0),
    ground(0, 0, 1), send([1, 2, 3]), send_refused(0), report(), take(25), take(65537), take(26), take(26),
    heard(1, 0, 0, 2), heard(1, 0, 8, 0), take(), over(), heard(1, 0, 0, 1), ask_order(257), ask_order(9, 26),
    ask_order(256), ask_past([4]), ask_past([4], 0), ask_past_refused(1018)]
SENT = carried(frame(0, [1, 2, 3], name=0, channel=0))
SET_TO_9 = carried(order([0x82, 0, 9], name=0, channel=0))
OPENED = carried(order([0], name=0, channel=0))
PAST = carried(past([4], name=0, channel=0))
ANSWERED = [
    1, 0, 1, 0, 5, 0, 1, 24, 0, 1, 1, -5, 1, -5, 4, 3, 3, 1, 2, 1, -2, 5, 0, 1, 24, 0, 1, 1, -1, 1, -2, 1, -9, 1, -2,
    5, 0, 1, 24, 0, 1, 1, -2, 1, 0, 1, 0, 1, -2, 1, -9, 1, -5, 1, -2, 27, *SENT, 1, -1, 1, -3, 1, 0, 27, *SENT, 1, 0,
    1, 1, 1, -2, 27, *SET_TO_9, 27, *OPENED, 27, *PAST, 1, -5, 1, -2]


def flat(calls):
    return [number for call in calls for number in call]


class Interface(unittest.TestCase):
    def test_a_line(self):
        self.assertEqual(answers(flat(LINE)), ANSWERED)

    def test_one_call(self):
        self.assertEqual(answers([0, 0, 0, 1]), [1, 0])
        self.assertEqual(answers([4, 1023, 63, 127]), [1, 0])

    def test_kinds(self):
        calls = LINE + [craft(), hear_frames(*full()), hear_frames(frame(0, [1]), lock()), report(), give(), report()]
        got = answers(flat(calls))
        self.assertIs(type(got), list)
        self.assertEqual({type(number) for number in got}, {int})

    def test_what_is_handed_in_stays(self):
        calls = flat(LINE + [craft(), hear_frames(past([0x41, 1]), past([0x81, 2])), give(), report()])
        before = list(calls)
        answers(calls)
        self.assertEqual(calls, before)

    def test_a_list_that_cannot_be_changed(self):
        calls = Fixed(flat(LINE))
        self.assertEqual(answers(calls), ANSWERED)

    def test_a_second_time(self):
        half = message(frame(0, packet([1])))
        lines = [
            flat(LINE), flat([craft(), hear(half[:9])]), flat([craft(), hear(half[9:]), report(), give()]),
            flat([craft(), hear_frames(*full()), hear_frames(past([0x41, 1]), lock())]),
            flat([craft(), hear_frames(past([0x81, 1])), report(), give()]),
            flat([ground()] + [send([1])] * 64), flat([ground()] + [send([1])] * 65),
            flat([ground(), ask_order(9), send([1]), take()]), flat([ground(), take(), confirm(0), confirm(1)])]
        first = [answers(line) for line in lines]
        self.assertEqual([answers(line) for line in lines], first)
        self.assertEqual([answers(line) for line in reversed(lines)], first[::-1])
        self.assertEqual(first[2], [1, 0, 1, 0] + [5] + status() + [1, -1])
        self.assertEqual(first[4], [1, 0, 1, 0] + [5] + status(0, 1) + [1, -1])
        self.assertEqual(first[8], [1, 0, 1, -1, 1, 0, 1, -3])

    def test_what_is_given_back_is_new(self):
        line = flat(LINE)
        got = answers(line)
        got[:] = [99] * len(got)
        self.assertEqual(answers(line), ANSWERED)

    def test_nothing_is_printed(self):
        out = io.StringIO()
        err = io.StringIO()
        with contextlib.redirect_stdout(out), contextlib.redirect_stderr(err):
            answers(flat(LINE))
        self.assertEqual((out.getvalue(), err.getvalue()), ("", ""))

    def test_400_calls(self):
        self.assertEqual(ask(craft(), *[report()] * 399)[1:], [status()] * 399)
        calls = [craft(window=1)]
        for k in range(133):
            calls += [hear_frames(frame(k, packet([k], k % 64))), give(), report()]
        got = ask(*calls)
        self.assertEqual(len(got), 400)
        self.assertEqual(got[2::3], [given([k], k % 64) for k in range(133)])
        self.assertEqual(got[3::3], [status(k + 1) for k in range(133)])

    def test_400_calls_on_a_ground(self):
        calls = [ground(window=1), send([5] * 1017)] + [take(), over()] * 199
        got = ask(*calls)
        self.assertEqual(got[2::2], [carried(frame(0, [5] * 1017))] * 199)
        self.assertEqual(got[3::2], [[0]] * 199)

    def test_as_many_bodies_as_fit(self):
        bodies = [[k] * 1017 for k in range(29)]
        got = ask(ground(window=127), *[send(body) for body in bodies], *[take()] * 30)[30:]
        self.assertEqual(got, [carried(frame(k, body)) for k, body in enumerate(bodies)] + [[-1]])

    def test_a_list_as_long_as_may_be(self):
        sent = message(*[frame(k, [0x00] * 1017) for k in range(3)])
        data = sent * (29000 // len(sent))
        data += [0] * (29000 - len(data))
        self.assertEqual(ask(craft(), hear(data), report()), [[0], [0], status(3)])


class Fixed(list):
    """A list that takes no change, not for a while either."""

    def refuse(self, *given_in, **named):
        raise AssertionError("what is handed in is changed")

    append = clear = extend = insert = pop = remove = reverse = sort = refuse
    __setitem__ = __delitem__ = __iadd__ = __imul__ = refuse


if __name__ == "__main__":
    unittest.main()
