"""Promise 1: mul and inverse."""

import contextlib
import io
import unittest

from cipherparts.bytesteps import inverse, mul
from tests.reference import long_product
from tests.support import AnswerChecks, rows_of, spread


class Mul(AnswerChecks, unittest.TestCase):
    def product(self, a, b):
        answer = mul([a] * 64, [b] * 64)
        self.check_bytes(answer, 64)
        self.assertEqual(answer, [0] + [answer[1]] * 64)
        return answer[1]

    def test_published_examples(self):
        self.assertEqual(self.product(0x57, 0x83), 0xC1)
        self.assertEqual(self.product(0x57, 0x13), 0xFE)
        self.assertEqual(self.product(0x57, 0x02), 0xAE)
        self.assertEqual(self.product(0x57, 0x04), 0x47)

    def test_zero_and_one_on_either_side(self):
        for row in rows_of(64, range(256)):
            self.assertEqual(mul(row, [0] * 64), [0] * 65)
            self.assertEqual(mul([0] * 64, row), [0] * 65)
            self.assertEqual(mul(row, [1] * 64), [0] + row)
            self.assertEqual(mul([1] * 64, row), [0] + row)

    def test_255_by_255(self):
        self.assertEqual(self.product(255, 255), 0x13)
        self.assertEqual(long_product(255, 255), 0x13)

    def test_first_reduction(self):
        self.assertEqual(self.product(128, 2), 0x1B)
        self.assertEqual(self.product(2, 128), 0x1B)

    def test_all_pairs(self):
        for a in range(256):
            for row in rows_of(64, range(256)):
                answer = mul([a] * 64, row)
                self.assertEqual(answer, [0] + [long_product(a, b) for b in row], a)

    def test_each_byte_has_its_own_partner(self):
        a, b = spread(64, 11, 3), spread(64, 29, 200)
        answer = mul(a, b)
        self.check_bytes(answer, 64)
        self.assertEqual(answer, [0] + [long_product(p, q) for p, q in zip(a, b)])

    def test_one_list_on_both_sides(self):
        a = spread(64, 5, 77)
        self.assertEqual(mul(a, a), [0] + [long_product(p, p) for p in a])

    def test_keeps_nothing(self):
        first = [spread(64, 11, 3), spread(64, 29, 200)]
        other = [spread(64, 3, 1), spread(64, 17, 90)]
        self.check_keeps_nothing(mul, first, other)

    def test_wrong_input_leaves_nothing_behind(self):
        right = [spread(64, 11, 3), spread(64, 29, 200)]
        wrong = [([], []), ([1] * 63, [1] * 64), ([1] * 64, [1] * 65), (None, [1] * 64),
                 (["1"] * 64, [1] * 64), ([256] * 64, [-1] * 64), (5, 7)]
        self.check_unharmed_by_wrong_input(mul, right, wrong)

    def test_wants_two_lists(self):
        self.assertRaises(TypeError, mul, [1] * 64)
        self.assertRaises(TypeError, mul, [1] * 64, [1] * 64, [1] * 64)


class Inverse(AnswerChecks, unittest.TestCase):
    def test_published_example(self):
        self.assertEqual(inverse([0x53] * 64), [0] + [0xCA] * 64)

    def test_zero_and_one(self):
        answer = inverse([0, 1] * 32)
        self.check_bytes(answer, 64)
        self.assertEqual(answer, [0] + [0, 1] * 32)

    def test_all_bytes(self):
        for row in rows_of(64, range(256)):
            answer = inverse(row)
            self.check_bytes(answer, 64)
            for x, y in zip(row, answer[1:]):
                self.assertEqual(long_product(x, y), 0 if x == 0 else 1, x)
            self.assertEqual(mul(row, answer[1:]), [0] + [0 if x == 0 else 1 for x in row])
            if 0 in row:
                self.assertEqual(answer[1 + row.index(0)], 0)

    def test_each_byte_by_itself(self):
        row = spread(64, 31, 8)
        expected = [inverse([x] * 64)[1] for x in row]
        self.assertEqual(inverse(row), [0] + expected)
        self.assertEqual(inverse(expected), [0] + row)

    def test_keeps_nothing(self):
        self.check_keeps_nothing(inverse, [spread(64, 31, 8)], [spread(64, 13, 44)])

    def test_wrong_input_leaves_nothing_behind(self):
        wrong = [([],), ([1] * 63,), ([1] * 65,), (None,), (["1"] * 64,), ([256] * 64,), ([-1] * 64,), (7,)]
        self.check_unharmed_by_wrong_input(inverse, [spread(64, 31, 8)], wrong)

    def test_wants_one_list(self):
        self.assertRaises(TypeError, inverse)
        self.assertRaises(TypeError, inverse, [1] * 64, [1] * 64)


class Silence(unittest.TestCase):
    def test_nothing_is_printed(self):
        out, err = io.StringIO(), io.StringIO()
        with contextlib.redirect_stdout(out), contextlib.redirect_stderr(err):
            mul([3] * 64, [7] * 64)
            inverse([3] * 64)
        self.assertEqual(out.getvalue() + err.getvalue(), "")


if __name__ == "__main__":
    unittest.main()
