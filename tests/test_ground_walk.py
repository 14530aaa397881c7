"""Promises 5 to 10 on long lines, beside a ground written in another way: each body has its own marks."""

import unittest

from tests.helper import (
    CHANNEL, ask, ask_order, ask_past, ask_past_refused, carried, frame, ground, heard, order, over, past, send,
    send_refused, take)


class Plain:
    """A ground whose bodies each know if they are sent by now, and if they ever were."""

    def __init__(self, window):
        self.window = window
        self.base = 0
        self.bodies = []

    def send(self, body):
        if len(self.bodies) == 64:
            return [-1]
        self.bodies.append({"body": body, "now": False, "ever": False})
        return [0]

    def take(self, most):
        if most > 65536:
            return [-2]
        free = [k for k, one in enumerate(self.bodies) if not one["now"]]
        if not free or sum(one["now"] for one in self.bodies) >= self.window:
            return [-1]
        answer = carried(frame((self.base + free[0]) % 256, self.bodies[free[0]]["body"]))
        if answer[0] > most:
            return [-5]
        self.bodies[free[0]]["now"] = True
        self.bodies[free[0]]["ever"] = True
        return answer

    def heard(self, r):
        d = (r[3] - self.base) % 256
        if r[:2] != [1, 4 * CHANNEL] or r[2] // 32 % 2 == 1 or d > sum(one["ever"] for one in self.bodies):
            return [-3]
        self.bodies = self.bodies[d:]
        self.base = r[3]
        if r[2] // 8 % 2 == 1:
            self.over()
        return [d]

    def over(self):
        for one in self.bodies:
            one["now"] = False
        return [0]

    def order(self, v, most):
        if not 0 <= v <= 256 or most > 65536:
            return [-2]
        answer = carried(order([0] if v == 256 else [0x82, 0, v]))
        if answer[0] > most:
            return [-5]
        if v < 256:
            self.base = v
            for one in self.bodies:
                one["now"] = one["ever"] = False
        return answer

    def past(self, body, most):
        if most > 65536:
            return [-2]
        answer = carried(past(body))
        return [-5] if answer[0] > most else answer


class Chance:
    def __init__(self, seed):
        self.state = seed

    def below(self, n):
        self.state = (self.state * 1103515245 + 12345) % 2147483648
        return (self.state >> 8) % n

    def of(self, *choices):
        return choices[self.below(len(choices))]


def report_by_chance(chance, plain):
    first = chance.of(1, 1, 1, 1, 1, 1, 1, 0)
    second = 4 * CHANNEL + chance.of(0, 0, 0, 0, 0, 0, 0, 4)
    marks = chance.of(0, 0, 0, 2, 6, 8, 8, 16, 24, 32, 215)
    number = (plain.base + chance.of(0, 1, 1, 2, 2, 3, 4, 5, 6, 9, 20, 255)) % 256
    return [first, second, marks, number]


def step(chance, plain):
    """A call by chance, and what the plain ground answers."""
    body = [chance.below(256) for k in range(1 + chance.below(12))]
    most = chance.of(65536, 65536, 65536, 65536, 26, 25, 34, 0, 65537)
    kind = chance.of("send", "send", "take", "take", "take", "heard", "heard", "over", "order", "past", "refused")
    if kind == "send":
        return send(body), plain.send(body)
    if kind == "take":
        return take(most), plain.take(most)
    if kind == "heard":
        r = report_by_chance(chance, plain)
        return heard(*r), plain.heard(r)
    if kind == "over":
        return over(), plain.over()
    if kind == "order":
        v = chance.of(256, 256, -1, 257, chance.below(256), 255)
        return ask_order(v, most), plain.order(v, most)
    if kind == "past":
        return ask_past(body, most), plain.past(body, most)
    return chance.of(send_refused(0), send_refused(1018), ask_past_refused(0), ask_past_refused(1018, 0)), [-2]


class Walk(unittest.TestCase):
    def test_walks(self):
        for seed in range(40):
            with self.subTest(seed=seed):
                chance = Chance(seed)
                window = chance.of(1, 2, 3, 5, 8, 127)
                plain = Plain(window)
                steps = [step(chance, plain) for k in range(399)]
                got = ask(ground(window=window), *[call for call, answer in steps])
                self.assertEqual(got[1:], [answer for call, answer in steps])


if __name__ == "__main__":
    unittest.main()
