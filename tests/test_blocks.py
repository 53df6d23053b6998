"""Promise 6: blocks."""

import contextlib
import io
import unittest

from cipherparts.bytesteps import blocks, expand, step
from tests.published import EXAMPLES, EXAMPLES_BACK
from tests.reference import add, plain_step, schedule, schedule_back
from tests.support import AnswerChecks, HIGHEST, LOWEST, REFUSED_N, rows_of, spread

ROUNDS = {16: 10, 24: 12, 32: 14}
REFUSED_ROUNDS = [0, 9, 11, 13, 15, -10, -12, -14, 1, 8, 16, 20, 24, 266, LOWEST, HIGHEST]


def both_rows(key):
    """The round keys and those for the way back, as expand gives them."""
    answer = expand(key, len(key))
    count = answer[1]
    return answer[2:2 + count], answer[3 + count:]


def plain_block(block, keys, back):
    """One block by the steps of the tests' own; keys is a list of keys."""
    state = add(block, keys[0])
    for key in keys[1:-1]:
        state = plain_step(state, key, 2 if back else 0)
    return plain_step(state, keys[-1], 3 if back else 1)


class Blocks(AnswerChecks, unittest.TestCase):
    def bytes_of(self, keys, rounds, back, text, n):
        answer = blocks(keys, rounds, back, text, n)
        self.check_row(answer, n, 16 * n)
        return answer[2:]

    def test_the_published_examples(self):
        for key, text, states in EXAMPLES:
            there, back = both_rows(key)
            rounds = ROUNDS[len(key)]
            self.assertEqual(self.bytes_of(there, rounds, 0, text, 1), states[-1])
            self.assertEqual(self.bytes_of(back, rounds, 1, states[-1], 1), text)

    def test_the_published_examples_with_keys_worked_out_here(self):
        for key, text, states, back in EXAMPLES_BACK:
            keys = schedule(key)
            rounds = len(keys) - 1
            self.assertEqual(blocks(sum(keys, []), rounds, 0, text, 1), [1, 16] + states[-1])
            self.assertEqual(blocks(sum(schedule_back(keys), []), rounds, 1, states[-1], 1), [1, 16] + text)

    def test_against_the_steps_one_by_one(self):
        # The keys need not come from expand: any bytes are keys.
        for rounds in ROUNDS.values():
            keys = spread(16 + 16 * rounds, 29, rounds)
            text = spread(16 * 5, 53, 7)
            for back in (0, 1):
                expected = []
                for block in rows_of(16, text):
                    expected.extend(plain_block(block, rows_of(16, keys), back))
                self.assertEqual(self.bytes_of(keys, rounds, back, text, 5), expected)

    def test_against_the_calls_of_step(self):
        for rounds in ROUNDS.values():
            keys = spread(16 + 16 * rounds, 31, 9)
            text = spread(16, 3, 77)
            for back in (0, 1):
                state = add(text, keys[:16])
                for i in range(1, rounds):
                    state = step(state, keys[16 * i:16 * i + 16], 2 * back)[1:]
                state = step(state, keys[16 * rounds:], 2 * back + 1)[1:]
                self.assertEqual(self.bytes_of(keys, rounds, back, text, 1), state)

    def test_the_way_back_gives_the_text_again(self):
        for n in (0, 1, 2, 3, 7, 31, 32):
            for size, rounds in ROUNDS.items():
                there, back = both_rows(spread(size, 11, n))
                text = spread(16 * n, 47, 5 + n)
                self.assertEqual(self.bytes_of(back, rounds, 1, self.bytes_of(there, rounds, 0, text, n), n), text)
                self.assertEqual(self.bytes_of(there, rounds, 0, self.bytes_of(back, rounds, 1, text, n), n), text)

    def test_each_block_as_if_it_stood_alone(self):
        for size, rounds in ROUNDS.items():
            rows = both_rows(spread(size, 29, 200))
            for n in (2, 3, 32):
                text = spread(16 * n, 19, 130)
                for back in (0, 1):
                    alone = []
                    for block in rows_of(16, text):
                        alone.extend(self.bytes_of(rows[back], rounds, back, block, 1))
                    self.assertEqual(self.bytes_of(rows[back], rounds, back, text, n), alone)

    def test_the_same_block_again_and_again(self):
        for key, text, states in EXAMPLES:
            there, back = both_rows(key)
            rounds = ROUNDS[len(key)]
            for n in range(1, 33):
                self.assertEqual(blocks(there, rounds, 0, text * n, n), [n, 16 * n] + states[-1] * n)

    def test_no_block(self):
        for size, rounds in ROUNDS.items():
            there, back = both_rows(spread(size, 11, 3))
            self.assertEqual(blocks(there, rounds, 0, [], 0), [0, 0])
            self.assertEqual(blocks(back, rounds, 1, [], 0), [0, 0])

    def test_the_highest_n_of_the_promise(self):
        there = both_rows(EXAMPLES[0][0])[0]
        for n in (33, 4096):
            self.assertEqual(self.bytes_of(there, 10, 0, EXAMPLES[0][1] * n, n), EXAMPLES[0][2][-1] * n)

    def test_there_and_back_differ(self):
        keys, text = spread(176, 29, 200), spread(16, 19, 130)
        self.assertNotEqual(blocks(keys, 10, 0, text, 1), blocks(keys, 10, 1, text, 1))

    def refused(self, rounds, n):
        for back in (0, 1):
            self.check_refused(blocks([], rounds, back, [], n))

    def test_refused_rounds(self):
        for rounds in REFUSED_ROUNDS:
            for n in [0, 1, 2, 32, 33, 34, 100, 1000, 4095, 4096] + REFUSED_N:
                self.refused(rounds, n)

    def test_every_small_number_of_rounds(self):
        for rounds in range(-20, 300):
            if rounds not in ROUNDS.values():
                self.refused(rounds, 0)
                self.refused(rounds, 1)

    def test_refused_n(self):
        for rounds in ROUNDS.values():
            for n in REFUSED_N:
                self.refused(rounds, n)

    def test_keeps_nothing(self):
        for size, rounds in ROUNDS.items():
            rows = both_rows(spread(size, 29, 200))
            text = spread(48, 19, 130)
            for back in (0, 1):
                first = [rows[back], rounds, back, text, 3]
                for other in ([rows[1 - back], rounds, back, text, 3], [rows[back], rounds, 1 - back, text, 3],
                              [rows[back], rounds, back, spread(48, 3, 1), 3],
                              [rows[back], rounds, back, text[:32], 2], [[], rounds, back, [], -1],
                              [[], 9, back, [], 3]):
                    self.check_keeps_nothing(blocks, first, other)
        self.check_keeps_nothing(blocks, [[], 11, 0, [], 1], [spread(176, 1, 1), 10, 0, [], 0])
        self.check_keeps_nothing(blocks, [spread(176, 1, 1), 10, 0, [], 0], [[], 11, 0, [], 1])

    def test_one_list_twice(self):
        keys = spread(176, 29, 200)
        expected = [byte for row in rows_of(16, keys) for byte in plain_block(row, rows_of(16, keys), 0)]
        self.assertEqual(blocks(keys, 10, 0, keys, 11), [11, 176] + expected)

    def test_wrong_input_leaves_nothing_behind(self):
        keys, text = spread(176, 29, 200), spread(32, 19, 130)
        wrong = [([], 10, 0, [], 1), (keys[:-1], 10, 0, text, 2), (keys, 12, 0, text, 2), (keys, 10, 0, text[:31], 2),
                 (keys, 10, 2, text, 2), (keys, 10, -1, text, 2), (None, 10, 0, text, 2), (keys, None, 0, text, 2),
                 (keys, 10, None, text, 2), (keys, 10, 0, None, 2), (keys, 10, 0, text, None),
                 (keys, 10, 0, ["1"] * 32, 2), (keys, 10, 0, [256] * 32, 2), (["1"] * 176, 10, 1, text, 2)]
        for back in (0, 1):
            self.check_unharmed_by_wrong_input(blocks, [keys, 10, back, text, 2], wrong)

    def test_wants_five_arguments(self):
        self.assertRaises(TypeError, blocks, [1] * 176, 10, 0, [1] * 16)
        self.assertRaises(TypeError, blocks, [1] * 176, 10, 0, [1] * 16, 1, 0)

    def test_nothing_is_printed(self):
        out, err = io.StringIO(), io.StringIO()
        with contextlib.redirect_stdout(out), contextlib.redirect_stderr(err):
            blocks([3] * 176, 10, 0, [7] * 32, 2)
            blocks([3] * 176, 10, 1, [7] * 32, 2)
            blocks([], 9, 0, [], 1)
        self.assertEqual(out.getvalue() + err.getvalue(), "")


if __name__ == "__main__":
    unittest.main()
