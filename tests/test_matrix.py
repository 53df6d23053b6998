"""Promises 2 and 3: affine and composed."""

import contextlib
import io
import unittest

from cipherparts.bytesteps import affine, composed, inverse
from tests.reference import CIPHER, counted
from tests.support import AnswerChecks, rows_of, spread

UNCHANGED = [128, 64, 32, 16, 8, 4, 2, 1]
MIRROR = [1, 2, 4, 8, 16, 32, 64, 128]
NOTHING = [0] * 8
# Bit i of the result is bit i - 1 of the byte, bit 0 is 0: neither its own
# transpose nor the same upside down.
SHIFT_UP = [64, 32, 16, 8, 4, 2, 1, 0]
SHIFT_DOWN = [0, 128, 64, 32, 16, 8, 4, 2]
TOP_TO_BOTTOM = [0, 0, 0, 0, 0, 0, 0, 128]
MIXED = spread(8, 37, 5)
OTHER = spread(8, 91, 130)
MATRICES = [UNCHANGED, MIRROR, NOTHING, SHIFT_UP, SHIFT_DOWN, TOP_TO_BOTTOM, CIPHER, MIXED, OTHER, [255] * 8]


class Affine(AnswerChecks, unittest.TestCase):
    def images(self, matrix, c):
        """Of all 256 bytes, in order."""
        images = []
        for row in rows_of(64, range(256)):
            answer = affine(row, matrix * 8, c)
            self.check_bytes(answer, 64)
            images.extend(answer[1:])
        return images

    def test_matrix_that_changes_nothing(self):
        self.assertEqual(self.images(UNCHANGED, 0), list(range(256)))
        self.assertEqual(self.images(UNCHANGED, 255), [255 - x for x in range(256)])
        self.assertEqual(self.images(UNCHANGED, 0x63), [x ^ 0x63 for x in range(256)])

    def test_matrix_of_nothing(self):
        for c in (0, 1, 128, 0x63, 255):
            self.assertEqual(self.images(NOTHING, c), [c] * 256)

    def test_matrices_that_move_bits(self):
        self.assertEqual(self.images(SHIFT_UP, 0), [x * 2 % 256 for x in range(256)])
        self.assertEqual(self.images(SHIFT_DOWN, 0), [x // 2 for x in range(256)])
        self.assertEqual(self.images(TOP_TO_BOTTOM, 0), [x // 128 for x in range(256)])
        mirrored = [int(f"{x:08b}"[::-1], 2) for x in range(256)]
        self.assertEqual(self.images(MIRROR, 0), mirrored)

    def test_against_a_count(self):
        for matrix in MATRICES:
            for c in (0, 255, 1, 128, 0x63, 0xA4):
                self.assertEqual(self.images(matrix, c), [counted(x, matrix, c) for x in range(256)])

    def test_every_single_bit_of_a_matrix(self):
        for place in range(8):
            for column in range(8):
                matrix = list(NOTHING)
                matrix[7 - place] = 1 << column
                expected = [(x >> column & 1) << place for x in range(256)]
                self.assertEqual(self.images(matrix, 0), expected)

    def test_every_c(self):
        x, m = spread(64, 23, 9), spread(64, 51, 66)
        plain = affine(x, m, 0)
        for c in range(256):
            self.assertEqual(affine(x, m, c), [0] + [y ^ c for y in plain[1:]])

    def test_each_group_of_eight_has_its_own_matrix(self):
        groups = [UNCHANGED, MIRROR, NOTHING, SHIFT_UP, SHIFT_DOWN, CIPHER, MIXED, OTHER]
        for turn in range(8):
            turned = groups[turn:] + groups[:turn]
            m = [row for matrix in turned for row in matrix]
            for c in (0, 255, 0x5A):
                x = spread(64, 19 + turn, 201)
                answer = affine(x, m, c)
                self.check_bytes(answer, 64)
                self.assertEqual(answer, [0] + [counted(x[i], turned[i // 8], c) for i in range(64)])

    def test_a_matrix_reaches_its_own_eight_bytes_alone(self):
        for group in range(8):
            m = [0] * 64
            m[8 * group:8 * group + 8] = UNCHANGED
            expected = [255 if i // 8 == group else 0 for i in range(64)]
            self.assertEqual(affine([255] * 64, m, 0), [0] + expected)

    def test_the_cipher_s_published_substitution(self):
        x = [0x00, 0x01, 0x10, 0x53, 0x9A, 0xC9, 0xF0, 0xFF] * 8
        expected = [0x63, 0x7C, 0xCA, 0xED, 0xB8, 0xDD, 0x8C, 0x16] * 8
        self.assertEqual(affine(inverse(x)[1:], CIPHER * 8, 0x63), [0] + expected)

    def test_one_list_twice(self):
        x = spread(64, 23, 9)
        expected = [counted(x[i], x[i - i % 8:i - i % 8 + 8], 7) for i in range(64)]
        self.assertEqual(affine(x, x, 7), [0] + expected)

    def test_keeps_nothing(self):
        first = [spread(64, 23, 9), spread(64, 51, 66), 0x63]
        self.check_keeps_nothing(affine, first, [spread(64, 23, 9), spread(64, 51, 66), 0x64])
        self.check_keeps_nothing(affine, first, [spread(64, 23, 9), spread(64, 7, 66), 0x63])
        self.check_keeps_nothing(affine, first, [spread(64, 5, 9), spread(64, 51, 66), 0x63])

    def test_wrong_input_leaves_nothing_behind(self):
        x, m = spread(64, 23, 9), spread(64, 51, 66)
        wrong = [([], [], 0), (x[:63], m, 1), (x, m[:63], 1), (x, m[:8], 1), (x, m, None), (x, m, [1]),
                 (x, m, 256), (x, m, -1), (None, m, 1), (x, None, 1), (["1"] * 64, m, 1), ([256] * 64, m, 1)]
        self.check_unharmed_by_wrong_input(affine, [x, m, 0x63], wrong)

    def test_wants_three_arguments(self):
        self.assertRaises(TypeError, affine, [1] * 64, [1] * 64)
        self.assertRaises(TypeError, affine, [1] * 64, [1] * 64, 0, 0)


class Composed(AnswerChecks, unittest.TestCase):
    def check_pair(self, a, b):
        answer = composed(a, b)
        self.check_bytes(answer, 8)
        for x in range(256):
            self.assertEqual(counted(x, answer[1:], 0), counted(counted(x, b, 0), a, 0), (a, b, x))
        for row in rows_of(64, range(256)):
            after_b = affine(row, b * 8, 0)[1:]
            self.assertEqual(affine(row, answer[1:] * 8, 0), affine(after_b, a * 8, 0))

    def test_as_b_first_and_then_a(self):
        for a in MATRICES:
            for b in MATRICES:
                self.check_pair(a, b)

    def test_the_order_matters(self):
        # Down and then up clears the lowest bit, up and then down the highest.
        self.assertEqual(composed(SHIFT_UP, SHIFT_DOWN), [0, 128, 64, 32, 16, 8, 4, 2, 0])
        self.assertEqual(composed(SHIFT_DOWN, SHIFT_UP), [0, 0, 64, 32, 16, 8, 4, 2, 1])
        for a, b in ((MIXED, OTHER), (CIPHER, MIXED), (SHIFT_UP, MIRROR), (TOP_TO_BOTTOM, SHIFT_UP)):
            self.assertNotEqual(composed(a, b), composed(b, a))

    def test_the_matrix_that_changes_nothing_on_either_side(self):
        for matrix in MATRICES:
            self.assertEqual(composed(matrix, UNCHANGED), [0] + matrix)
            self.assertEqual(composed(UNCHANGED, matrix), [0] + matrix)

    def test_nothing_on_either_side(self):
        for matrix in MATRICES:
            self.assertEqual(composed(matrix, NOTHING), [0] * 9)
            self.assertEqual(composed(NOTHING, matrix), [0] * 9)

    def test_one_list_on_both_sides(self):
        self.assertEqual(composed(MIRROR, MIRROR), [0] + UNCHANGED)
        self.check_pair(MIXED, MIXED)

    def test_keeps_nothing(self):
        self.check_keeps_nothing(composed, [MIXED, OTHER], [OTHER, MIXED])
        self.check_keeps_nothing(composed, [MIXED, CIPHER], [MIXED, OTHER])

    def test_wrong_input_leaves_nothing_behind(self):
        wrong = [([], []), (MIXED[:7], OTHER), (MIXED, OTHER[:7]), (MIXED * 8, OTHER * 8), (None, OTHER),
                 (MIXED, None), (["1"] * 8, OTHER), (MIXED, ["1"] * 8), ([256] * 8, [-1] * 8), (5, 7)]
        self.check_unharmed_by_wrong_input(composed, [MIXED, OTHER], wrong)

    def test_wants_two_lists(self):
        self.assertRaises(TypeError, composed, MIXED)
        self.assertRaises(TypeError, composed, MIXED, OTHER, 0)


class Silence(unittest.TestCase):
    def test_nothing_is_printed(self):
        out, err = io.StringIO(), io.StringIO()
        with contextlib.redirect_stdout(out), contextlib.redirect_stderr(err):
            affine([3] * 64, CIPHER * 8, 0x63)
            composed(MIXED, OTHER)
        self.assertEqual(out.getvalue() + err.getvalue(), "")


if __name__ == "__main__":
    unittest.main()
