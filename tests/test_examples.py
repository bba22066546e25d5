"""The examples of the document, as lists of calls and of answers, as far as the calls are written."""

import unittest

from closedqueues.networks import answers

FIRST = [
    ([0, 2, 1], [1, 0]),
    ([7, 0], [3, 0, 0, 1]),
    ([2, 0, 0, 1], [1, 0]),
    ([2, 1, 0, 2], [1, 0]),
    ([3, 0, 2], [1, 0]),
    ([6], [3, 0, 7, 1]),
    ([7, 0], [3, 0, 3, 7]),
    ([9, 1, 0], [3, 0, 10, 7]),
    ([8, 0], [3, 0, 14, 3]),
    ([11, 1, 0], [3, 0, 10, 3]),
    ([12, 1, 0], [3, 0, 6, 7]),
    ([1, 1, 0, 2], [1, 0]),
    ([7, 0], [3, 0, 3, 5]),
    ([1, 1, 1, 1], [1, 0]),
    ([7, 0], [3, 0, 3, 5]),
    ([9, 1, 0], [3, 0, 6, 5]),
]
SECOND = [
    ([5, 0], [1, -11]),
    ([0, 1, 2], [1, 0]),
    ([2, 0, 0, 1], [1, 0]),
    ([2, 0, 1, 2], [1, 0]),
    ([3, 0, 1], [1, 0]),
    ([3, 1, 1], [1, 0]),
    ([7, 0], [3, 0, 1, 2]),
    ([7, 1], [3, 0, 1, 4]),
    ([10, 0], [3, 0, 2, 1]),
    ([0, 2, 3], [1, 0]),
    ([3, 0, 9], [1, 0]),
    ([3, 1, 3], [1, 0]),
    ([3, 2, 1], [1, -28]),
    ([7, 0], [1, -33]),
    ([5, 0], [1, 9]),
    ([3, 0, 13], [1, -22]),
    ([4, 2, 0], [1, -2]),
]


class Examples(unittest.TestCase):
    def check(self, steps):
        calls = []
        told = []
        for call, answer in steps:
            calls.extend(call)
            told.extend(answer)
            self.assertEqual(answers(calls), told)

    def test_first_example(self):
        self.check(FIRST)

    def test_second_example(self):
        self.check(SECOND)


if __name__ == "__main__":
    unittest.main()
