"""Promise 5: bodies for the ground."""

import unittest

from tests.helper import ask, ground, send, send_refused

OUTSIDE = (0, 1018, 1019, 2000, 65536, 65537, 2147483648, 4294967295)


class Send(unittest.TestCase):
    def test_within(self):
        for n in (1, 2, 7, 500, 1016, 1017):
            with self.subTest(n=n):
                self.assertEqual(ask(ground(), send([n % 256] * n)), [[0], [0]])

    def test_outside(self):
        for n in OUTSIDE:
            with self.subTest(n=n):
                self.assertEqual(ask(ground(), send_refused(n), send([1])), [[0], [-2], [0]])

    def test_64_bodies(self):
        got = ask(ground(), *[send([k]) for k in range(67)])
        self.assertEqual(got, [[0]] * 65 + [[-1]] * 3)

    def test_64_long_bodies(self):
        calls = [send([k] * 1017) for k in range(20)] + [send([k] * 100) for k in range(44)]
        self.assertEqual(ask(ground(), *calls, send([1] * 1017), send([1])), [[0]] * 65 + [[-1]] * 2)

    def test_equal_bodies_are_each_one(self):
        self.assertEqual(ask(ground(), *[send([5])] * 65), [[0]] * 65 + [[-1]])

    def test_the_window_sets_no_limit(self):
        for window in (1, 2, 63, 64, 65, 127):
            with self.subTest(window=window):
                self.assertEqual(ask(ground(window=window), *[send([5])] * 65), [[0]] * 65 + [[-1]])

    def test_range_comes_first(self):
        for n in OUTSIDE:
            with self.subTest(n=n):
                got = ask(ground(), *[send([5])] * 64, send_refused(n), send([1]))
                self.assertEqual(got[65:], [[-2], [-1]])

    def test_a_refused_body_is_not_there(self):
        calls = [send([5])] * 63 + [send_refused(n) for n in OUTSIDE] + [send([6]), send([7])]
        got = ask(ground(), *calls)
        self.assertEqual(got[64:], [[-2]] * len(OUTSIDE) + [[0], [-1]])


if __name__ == "__main__":
    unittest.main()
