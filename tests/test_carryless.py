"""Promise 7: carryless."""

import contextlib
import io
import unittest

from cipherparts.bytesteps import carryless
from tests.support import AnswerChecks, spread

FULL = 2 ** 64 - 1
ORDINARY = [2, 3, 5, 7, 10, 255, 256, 1000, 65535, 65537, 0x123456789ABCDEF, 10 ** 12 + 39]
ALL_BITS = [FULL, FULL - 1, 2 ** 63, 2 ** 63 + 1, 0x8000000080000001, 0xAAAAAAAAAAAAAAAA, 0xFEDCBA9876543210,
            0xF0F0F0F0F0F0F0F1, int.from_bytes(bytes(spread(8, 29, 200)), "big") | 2 ** 63]
NUMBERS = [0, 1] + ORDINARY + ALL_BITS + [0x5555555555555555, 2 ** 63 - 1, 2 ** 32, 2 ** 32 - 1]


def counted_product(a, b):
    """Bit by bit: an ordinary product whose columns are too far apart to carry into one another."""
    # At most 64 pairs fall on one column, so eight bits of room are enough.
    wide_a = sum((a >> i & 1) << 8 * i for i in range(64))
    wide_b = sum((b >> i & 1) << 8 * i for i in range(64))
    columns = (wide_a * wide_b).to_bytes(128, "little")
    return sum((column & 1) << i for i, column in enumerate(columns))


class Carryless(AnswerChecks, unittest.TestCase):
    def product(self, a, b):
        answer = carryless(a, b)
        self.check_bytes(answer, 16)
        return int.from_bytes(bytes(answer[1:]), "little")

    def test_small_examples(self):
        self.assertEqual(carryless(3, 3), [0, 5] + [0] * 15)
        self.assertEqual(carryless(7, 7), [0, 0x15] + [0] * 15)
        self.assertEqual(carryless(0x57, 0x83), [0, 0x79, 0x2B] + [0] * 14)

    def test_zero_on_either_side(self):
        for a in NUMBERS:
            self.assertEqual(carryless(a, 0), [0] * 17)
            self.assertEqual(carryless(0, a), [0] * 17)

    def test_one_on_either_side(self):
        for a in NUMBERS:
            self.assertEqual(self.product(a, 1), a)
            self.assertEqual(self.product(1, a), a)

    def test_powers_of_two_on_either_side(self):
        for place in range(64):
            for a in NUMBERS:
                self.assertEqual(self.product(a, 1 << place), a << place)
                self.assertEqual(self.product(1 << place, a), a << place)

    def test_two_powers_of_two(self):
        for i in range(64):
            for j in range(64):
                self.assertEqual(self.product(1 << i, 1 << j), 1 << (i + j))

    def test_the_highest_by_itself(self):
        # A square without carries has its root's bits, each second place.
        self.assertEqual(carryless(FULL, FULL), [0] + [0x55] * 16)

    def test_squares_spread_the_bits(self):
        for a in NUMBERS:
            self.assertEqual(self.product(a, a), sum((a >> i & 1) << 2 * i for i in range(64)))

    def test_against_a_count(self):
        for a in NUMBERS:
            for b in NUMBERS:
                self.assertEqual(self.product(a, b), counted_product(a, b), (a, b))

    def test_mixed_numbers_against_a_count(self):
        for turn in range(100):
            a = int.from_bytes(bytes(spread(8, 11 + turn, 3)), "big")
            b = int.from_bytes(bytes(spread(8, 29, 200 + turn)), "little")
            self.assertEqual(self.product(a, b), counted_product(a, b), (a, b))

    def test_the_lowest_byte_first(self):
        self.assertEqual(carryless(1, 0x0807060504030201), [0, 1, 2, 3, 4, 5, 6, 7, 8] + [0] * 8)
        self.assertEqual(carryless(2 ** 56, 0x0807060504030201), [0] + [0] * 7 + [1, 2, 3, 4, 5, 6, 7, 8, 0])
        self.assertEqual(carryless(2 ** 63, 2 ** 63), [0] + [0] * 15 + [0x40])
        self.assertEqual(carryless(1, 1), [0, 1] + [0] * 15)

    def test_keeps_nothing(self):
        self.check_keeps_nothing(carryless, [0xFEDCBA9876543210, 0x123456789ABCDEF], [FULL, 3])
        self.check_keeps_nothing(carryless, [FULL, FULL], [0, FULL])
        self.check_keeps_nothing(carryless, [0, 0], [1, 1])

    def test_wrong_input_leaves_nothing_behind(self):
        wrong = [(None, 1), (1, None), ("1", 2), (2, "1"), ([1], [2]), (-1, 5), (5, -1), (2 ** 64, 3), (3, 2 ** 64)]
        self.check_unharmed_by_wrong_input(carryless, [0xFEDCBA9876543210, FULL], wrong)

    def test_wants_two_numbers(self):
        self.assertRaises(TypeError, carryless, 1)
        self.assertRaises(TypeError, carryless, 1, 2, 3)

    def test_nothing_is_printed(self):
        out, err = io.StringIO(), io.StringIO()
        with contextlib.redirect_stdout(out), contextlib.redirect_stderr(err):
            carryless(FULL, 3)
        self.assertEqual(out.getvalue() + err.getvalue(), "")


if __name__ == "__main__":
    unittest.main()
