"""Promise 9: the digests."""

import contextlib
import hashlib
import io
import unittest

from cipherparts.bytesteps import digest160, digest256
from tests.published import DIGESTS_160, DIGESTS_256, START_160, START_256, TWO_BLOCKS
from tests.reference import ROOTS_START_256, plain_160, plain_256
from tests.support import AnswerChecks, REFUSED_N, rows_of, spread


def padded(text):
    """FIPS 180, 5.1.1: the text, a bit set, then 0 up to its length in bits, in whole blocks."""
    length = (8 * len(text)).to_bytes(8, "big")
    return list(text) + [128] + [0] * ((55 - len(text)) % 64) + list(length)


def state_of(words):
    return [byte for word in words for byte in word.to_bytes(4, "little")]


def words_of(state):
    return [int.from_bytes(bytes(row), "little") for row in rows_of(4, state)]


def written(state):
    """A state as digests are written: each word's highest byte first."""
    return "".join(f"{word:08x}" for word in words_of(state))


class DigestChecks(AnswerChecks):
    """What holds of each digest; a TestCase below says which one, and how it is worked out in another way."""

    def state_after(self, state, text):
        n = len(text) // 64
        answer = self.digest(state, text, n)
        self.check_row(answer, n, self.size)
        return answer[2:]

    def expected_after(self, state, text):
        words = words_of(state)
        for block in rows_of(64, text):
            words = self.plain(words, block)
        return state_of(words)

    def states(self):
        size = self.size
        return [state_of(self.start), [0] * size, [255] * size, spread(size, 29, 200), spread(size, 3, 77),
                list(range(size)), [128, 0, 0, 0] * (size // 4), [0, 0, 0, 128] * (size // 4)]

    def block_rows(self):
        return [[0] * 64, [255] * 64, spread(64, 31, 90), spread(64, 53, 7), list(range(64)), [1] * 64, [128] * 64,
                [0] * 63 + [1], [128] + [0] * 63, [255, 0] * 32]

    def test_known_digests_in_one_call(self):
        for text, expected in self.known.items():
            row = padded(text.encode())
            self.assertEqual(written(self.state_after(state_of(self.start), row)), expected)

    def test_known_digests_block_by_block(self):
        for text, expected in self.known.items():
            state = state_of(self.start)
            for block in rows_of(64, padded(text.encode())):
                state = self.state_after(state, block)
            self.assertEqual(written(state), expected)

    def test_the_lowest_byte_first_in_a_state_and_last_in_a_text(self):
        text = [0x61, 0x62, 0x63, 0x80] + [0] * 59 + [24]
        self.assertEqual(self.digest(self.start_row, text, 1), [1, self.size] + self.abc_row)

    def test_how_many_blocks_the_known_texts_have(self):
        self.assertEqual([len(padded(text.encode())) for text in ("", "abc", TWO_BLOCKS)], [64, 64, 128])

    def test_texts_of_every_short_length(self):
        for length in range(0, 200):
            text = bytes(spread(length, 31, length))
            state = self.state_after(state_of(self.start), padded(text))
            self.assertEqual(written(state), self.whole(text).hexdigest(), length)

    def test_texts_of_up_to_32_blocks(self):
        for n in range(1, 33):
            text = bytes(spread(64 * n - 9, 53, n))
            answer = self.digest(state_of(self.start), padded(text), n)
            self.check_row(answer, n, self.size)
            self.assertEqual(written(answer[2:]), self.whole(text).hexdigest(), n)

    def test_states_and_blocks_against_another_way(self):
        for state in self.states():
            for block in self.block_rows():
                self.assertEqual(self.state_after(state, block), self.expected_after(state, block))

    def test_blocks_of_nothing_but_0_and_255(self):
        for state in self.states():
            for byte in (0, 255):
                for n in (1, 2, 3):
                    text = [byte] * 64 * n
                    self.assertEqual(self.state_after(state, text), self.expected_after(state, text))

    def test_each_bit_of_a_block(self):
        state = spread(self.size, 29, 200)
        seen = []
        for i in range(512):
            block = [0] * 64
            block[i // 8] = 128 >> i % 8
            seen.append(self.state_after(state, block))
            if i % 8 == 0:
                self.assertEqual(seen[-1], self.expected_after(state, block))
        self.assertEqual(len(set(map(tuple, seen))), 512)

    def test_each_bit_of_a_state(self):
        block = spread(64, 31, 90)
        seen = []
        for i in range(8 * self.size):
            state = [0] * self.size
            state[i // 8] = 1 << i % 8
            seen.append(self.state_after(state, block))
            if i % 5 == 0:
                self.assertEqual(seen[-1], self.expected_after(state, block))
        self.assertEqual(len(set(map(tuple, seen))), 8 * self.size)

    def test_mixed_states_and_blocks(self):
        for turn in range(30):
            state, text = spread(self.size, 11 + turn, 3), spread(64 * (1 + turn % 3), 29, 200 + turn)
            self.assertEqual(self.state_after(state, text), self.expected_after(state, text))

    def test_no_block(self):
        for state in self.states():
            self.assertEqual(self.digest(state, [], 0), [0, self.size] + state)

    def test_several_blocks_as_one_a_call(self):
        for n in (1, 2, 3, 7, 31, 32):
            text = spread(64 * n, 47, 5 + n)
            for first in self.states()[:4]:
                state = first
                for block in rows_of(64, text):
                    state = self.state_after(state, block)
                self.assertEqual(self.digest(first, text, n), [n, self.size] + state)

    def test_the_order_of_blocks_matters(self):
        state, text = state_of(self.start), spread(128, 47, 5)
        self.assertNotEqual(self.state_after(state, text), self.state_after(state, text[64:] + text[:64]))

    def test_the_highest_n_of_the_promise(self):
        for n in (33, 4096):
            text = bytes(spread(64 * n - 9, 53, n))
            answer = self.digest(state_of(self.start), padded(text), n)
            self.check_row(answer, n, self.size)
            self.assertEqual(written(answer[2:]), self.whole(text).hexdigest())

    def test_refused_n(self):
        for n in REFUSED_N:
            self.check_refused(self.digest([], [], n))

    def test_keeps_nothing(self):
        state, text = spread(self.size, 29, 200), spread(192, 19, 130)
        first = [state, text, 3]
        for other in ([state_of(self.start), text, 3], [state, spread(192, 3, 1), 3], [state, text[:128], 2],
                      [state, [], 0], [[], [], -1], [[], [], 4097]):
            self.check_keeps_nothing(self.digest, first, other)
            self.check_keeps_nothing(self.digest, other, first)

    def test_wrong_input_leaves_nothing_behind(self):
        size = self.size
        state, text = spread(size, 29, 200), spread(128, 19, 130)
        wrong = [([], [], 1), (state[:-1], text, 2), (state, text[:-1], 2), (state, text, 3), (None, text, 2),
                 (state, None, 2), (state, text, None), (state, text, "2"), (["1"] * size, text, 2),
                 (state, ["1"] * 128, 2), (state, [256] * 128, 2), ([-1] * size, text, 2), (state, text, -1),
                 (state, text, 4097)]
        self.check_unharmed_by_wrong_input(self.digest, [state, text, 2], wrong)

    def test_wants_three_arguments(self):
        self.assertRaises(TypeError, self.digest, [1] * self.size, [1] * 64)
        self.assertRaises(TypeError, self.digest, [1] * self.size, [1] * 64, 1, 0)

    def test_nothing_is_printed(self):
        out, err = io.StringIO(), io.StringIO()
        with contextlib.redirect_stdout(out), contextlib.redirect_stderr(err):
            self.digest([3] * self.size, [7] * 128, 2)
            self.digest([3] * self.size, [], 0)
            self.digest([], [], -1)
        self.assertEqual(out.getvalue() + err.getvalue(), "")


class Digest160(DigestChecks, unittest.TestCase):
    digest = staticmethod(digest160)
    plain = staticmethod(plain_160)
    whole = staticmethod(hashlib.sha1)
    size, start, known = 20, START_160, DIGESTS_160
    start_row = [0x01, 0x23, 0x45, 0x67, 0x89, 0xAB, 0xCD, 0xEF, 0xFE, 0xDC, 0xBA, 0x98, 0x76, 0x54, 0x32, 0x10,
                 0xF0, 0xE1, 0xD2, 0xC3]
    abc_row = [0x36, 0x3E, 0x99, 0xA9, 0x6A, 0x81, 0x06, 0x47, 0x71, 0x25, 0x3E, 0xBA, 0x6C, 0xC2, 0x50, 0x78,
               0x9D, 0xD8, 0xD0, 0x9C]


class Digest256(DigestChecks, unittest.TestCase):
    digest = staticmethod(digest256)
    plain = staticmethod(plain_256)
    whole = staticmethod(hashlib.sha256)
    size, start, known = 32, START_256, DIGESTS_256
    start_row = [0x67, 0xE6, 0x09, 0x6A, 0x85, 0xAE, 0x67, 0xBB, 0x72, 0xF3, 0x6E, 0x3C, 0x3A, 0xF5, 0x4F, 0xA5,
                 0x7F, 0x52, 0x0E, 0x51, 0x8C, 0x68, 0x05, 0x9B, 0xAB, 0xD9, 0x83, 0x1F, 0x19, 0xCD, 0xE0, 0x5B]
    abc_row = [0xBF, 0x16, 0x78, 0xBA, 0xEA, 0xCF, 0x01, 0x8F, 0xDE, 0x40, 0x41, 0x41, 0x23, 0x22, 0xAE, 0x5D,
               0xA3, 0x61, 0x03, 0xB0, 0x9C, 0x7A, 0x17, 0x96, 0x61, 0xFF, 0x10, 0xB4, 0xAD, 0x15, 0x00, 0xF2]

    def test_the_start_by_square_roots(self):
        self.assertEqual(START_256, ROOTS_START_256)


if __name__ == "__main__":
    unittest.main()
