"""Promise 8: tag."""

import contextlib
import io
import unittest

from cipherparts.bytesteps import blocks, expand, tag
from tests.published import SEALED
from tests.reference import add, plain_tag, tag_block, tag_field_product, tag_remainder
from tests.support import AnswerChecks, REFUSED_N, rows_of, spread

NOTHING = [0] * 16
FULL = [255] * 16
ONE = [128] + [0] * 15
H = list(bytes.fromhex("66e94bd4ef8a2c3b884cfa59ca342b2e"))
ORDINARY = [H, spread(16, 29, 200), spread(16, 3, 77), spread(16, 53, 7), [1] * 16, [128] * 16, list(range(16)),
            [0x55] * 16, [0xAA] * 16]
BLOCKS = [NOTHING, FULL, ONE, [0] * 15 + [1], [0] * 7 + [1, 128] + [0] * 7] + ORDINARY


def power(degree):
    """x to a power as a block, reduced by long division."""
    return tag_block(tag_remainder([0] * degree + [1] + [0] * 128))


def filled(row):
    """Bytes with 0 behind them up to whole blocks."""
    return row + [0] * (-len(row) % 16)


def tagged_text(beside, sealed):
    """What the counter mode's tag is made of: both rows, then how many bits each has."""
    lengths = (8 * len(beside)).to_bytes(8, "big") + (8 * len(sealed)).to_bytes(8, "big")
    return filled(beside) + filled(sealed) + list(lengths)


class Tag(AnswerChecks, unittest.TestCase):
    def tag_of(self, h, y, text):
        n = len(text) // 16
        answer = tag(h, y, text, n)
        self.check_row(answer, n, 16)
        return answer[2:]

    def cipher(self, key, block):
        answer = expand(key, len(key))
        return blocks(answer[2:2 + answer[1]], answer[0], 0, block, 1)[2:]

    def test_the_published_examples(self):
        for key, start, beside, text, sealed, made, mark in SEALED:
            h = self.cipher(key, NOTHING)
            self.assertEqual(self.tag_of(h, NOTHING, tagged_text(beside, sealed)), made)

    def test_the_published_examples_written_out(self):
        text = list(bytes.fromhex("0388dace60b6a392f328c2b971b2fe7800000000000000000000000000000080"))
        self.assertEqual(tag(H, NOTHING, text[:16], 1),
                         [1, 16] + list(bytes.fromhex("5e2ec746917062882c85b0685353deb7")))
        self.assertEqual(tag(H, NOTHING, text, 2),
                         [2, 16] + list(bytes.fromhex("f38cbb1ad69223dcc3457ae5b6b0f885")))

    def test_the_counter_mode_put_together(self):
        for key, start, beside, text, sealed, made, mark in SEALED:
            h = self.cipher(key, NOTHING)
            covered = []
            for i, block in enumerate(rows_of(16, text)):
                covered.extend(add(block, self.cipher(key, start + [0, 0, 0, 2 + i])[:len(block)]))
            self.assertEqual(covered, sealed)
            last = self.tag_of(h, NOTHING, tagged_text(beside, covered))
            self.assertEqual(add(last, self.cipher(key, start + [0, 0, 0, 1])), mark)

    def test_a_call_a_row_with_y_handed_on(self):
        for key, start, beside, text, sealed, made, mark in SEALED:
            h = self.cipher(key, NOTHING)
            y = NOTHING
            for row in rows_of(32, tagged_text(beside, sealed)):
                y = self.tag_of(h, y, row)
            self.assertEqual(y, made)

    def test_every_pair_of_powers(self):
        powers = [power(degree) for degree in range(255)]
        for i in range(128):
            for j in range(128):
                self.assertEqual(tag(powers[i], NOTHING, powers[j], 1), [1, 16] + powers[i + j], (i, j))

    def test_the_first_bit_stands_for_the_constant(self):
        self.assertEqual(power(0), ONE)
        x = [64] + [0] * 15
        self.assertEqual(self.tag_of(x, NOTHING, ONE), x)
        self.assertEqual(self.tag_of(x, NOTHING, x), [32] + [0] * 15)
        self.assertEqual(self.tag_of(x, NOTHING, [1] + [0] * 15), [0, 128] + [0] * 14)
        self.assertEqual(self.tag_of(x, NOTHING, [0] * 15 + [1]), [0xE1] + [0] * 15)
        self.assertEqual(self.tag_of([0] * 15 + [1], NOTHING, x), [0xE1] + [0] * 15)

    def test_against_a_long_division(self):
        for h in BLOCKS:
            for block in BLOCKS:
                self.assertEqual(self.tag_of(h, NOTHING, block), tag_field_product(block, h))
                self.assertEqual(self.tag_of(h, block, NOTHING), tag_field_product(block, h))

    def test_mixed_blocks_against_a_long_division(self):
        for turn in range(60):
            h, y = spread(16, 11 + turn, 3), spread(16, 29, 200 + turn)
            text = spread(16 * (1 + turn % 4), 31 + turn, 90)
            self.assertEqual(self.tag_of(h, y, text), plain_tag(h, y, text))

    def test_h_of_nothing_but_0(self):
        for y in BLOCKS:
            for n in (1, 2, 32):
                self.assertEqual(tag(NOTHING, y, spread(16 * n, 7, 1), n), [n, 16] + NOTHING)

    def test_y_of_nothing_but_0(self):
        for h in BLOCKS:
            for block in BLOCKS:
                self.assertEqual(self.tag_of(h, NOTHING, block), self.tag_of(h, block, NOTHING))
                self.assertEqual(self.tag_of(h, NOTHING, block), self.tag_of(block, NOTHING, h))

    def test_a_block_of_nothing_but_0(self):
        for h in BLOCKS:
            self.assertEqual(tag(h, NOTHING, NOTHING * 3, 3), [3, 16] + NOTHING)
            self.assertEqual(self.tag_of(h, ONE, NOTHING), h)
            # Nothing is added, but each block is a product all the same.
            self.assertEqual(self.tag_of(h, ONE, NOTHING * 2), tag_field_product(h, h))

    def test_a_block_like_y(self):
        for y in BLOCKS:
            self.assertEqual(self.tag_of(H, y, y), NOTHING)

    def test_h_that_stands_for_1(self):
        for y in BLOCKS:
            for block in BLOCKS:
                self.assertEqual(self.tag_of(ONE, y, block), add(y, block))
            text = spread(16 * 32, 31, 90)
            total = y
            for block in rows_of(16, text):
                total = add(total, block)
            self.assertEqual(self.tag_of(ONE, y, text), total)

    def test_y_is_added_ahead_of_the_product(self):
        for h in ORDINARY:
            for y in ORDINARY:
                block = spread(16, 41, 19)
                self.assertEqual(self.tag_of(h, y, block), self.tag_of(h, NOTHING, add(y, block)))

    def test_no_block(self):
        for h in BLOCKS:
            for y in BLOCKS:
                self.assertEqual(tag(h, y, [], 0), [0, 16] + y)

    def test_several_blocks_as_one_a_call(self):
        for n in (1, 2, 3, 7, 16, 31, 32):
            h, text = spread(16, 11, n), spread(16 * n, 47, 5 + n)
            for first in (NOTHING, FULL, spread(16, 29, 200)):
                y = first
                for block in rows_of(16, text):
                    y = self.tag_of(h, y, block)
                self.assertEqual(tag(h, first, text, n), [n, 16] + y)
                self.assertEqual(y, plain_tag(h, first, text))

    def test_the_order_of_blocks_matters(self):
        text = spread(32, 47, 5)
        self.assertNotEqual(self.tag_of(H, NOTHING, text), self.tag_of(H, NOTHING, text[16:] + text[:16]))

    def test_the_highest_n_of_the_promise(self):
        for n in (33, 4096):
            h, y, text = spread(16, 11, n), spread(16, 29, 200), spread(16 * n, 47, 5)
            for row in rows_of(512, text):
                y = self.tag_of(h, y, row)
            self.assertEqual(tag(h, spread(16, 29, 200), text, n), [n, 16] + y)

    def test_refused_n(self):
        for n in REFUSED_N:
            self.check_refused(tag([], [], [], n))

    def test_keeps_nothing(self):
        h, y, text = spread(16, 11, 3), spread(16, 29, 200), spread(48, 19, 130)
        first = [h, y, text, 3]
        for other in ([y, h, text, 3], [h, text[:16], text, 3], [h, y, spread(48, 3, 1), 3], [h, y, text[:32], 2],
                      [h, y, [], 0], [[], [], [], -1], [[], [], [], 4097]):
            self.check_keeps_nothing(tag, first, other)
            self.check_keeps_nothing(tag, other, first)

    def test_one_list_several_times(self):
        h = spread(16, 11, 3)
        self.assertEqual(tag(h, h, h, 1), [1, 16] + NOTHING)
        self.assertEqual(tag(h, h, [], 0), [0, 16] + h)
        self.assertEqual(h, spread(16, 11, 3))

    def test_wrong_input_leaves_nothing_behind(self):
        h, y, text = spread(16, 11, 3), spread(16, 29, 200), spread(32, 19, 130)
        wrong = [([], [], [], 1), (h[:15], y, text, 2), (h, y[:15], text, 2), (h, y, text[:31], 2), (h, y, text, 3),
                 (None, y, text, 2), (h, None, text, 2), (h, y, None, 2), (h, y, text, None), (h, y, text, "2"),
                 (["1"] * 16, y, text, 2), (h, ["1"] * 16, text, 2), (h, y, ["1"] * 32, 2), (h, y, [256] * 32, 2),
                 (h, y, [-1] * 32, 2), (h, y, text, -1), (h, y, text, 4097)]
        self.check_unharmed_by_wrong_input(tag, [h, y, text, 2], wrong)

    def test_wants_four_arguments(self):
        self.assertRaises(TypeError, tag, ONE, ONE, ONE)
        self.assertRaises(TypeError, tag, ONE, ONE, ONE, 1, 0)

    def test_nothing_is_printed(self):
        out, err = io.StringIO(), io.StringIO()
        with contextlib.redirect_stdout(out), contextlib.redirect_stderr(err):
            tag(H, ONE, FULL * 2, 2)
            tag(H, ONE, [], 0)
            tag([], [], [], -1)
        self.assertEqual(out.getvalue() + err.getvalue(), "")


if __name__ == "__main__":
    unittest.main()
