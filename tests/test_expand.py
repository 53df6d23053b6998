"""Promise 5: expand."""

import contextlib
import io
import unittest

from cipherparts.bytesteps import expand, step
from tests.published import EXAMPLES, SCHEDULE_16, SCHEDULE_24, SCHEDULE_32
from tests.reference import add, mix_back, schedule, schedule_back
from tests.support import AnswerChecks, rows_of, spread

ROUNDS = {16: 10, 24: 12, 32: 14}
REFUSED = [0, -1, 1, 8, 15, 17, 20, 23, 25, 28, 31, 33, 48, 64, 128, 192, 256, -16, -24, -32, 2 ** 16, 2 ** 16 + 16,
           -2147483648, 2147483647]
KEYS = [make(n) for n in ROUNDS for make in (
    lambda n: [0] * n, lambda n: [255] * n, lambda n: list(range(n)),
    lambda n: spread(n, 11, 3), lambda n: spread(n, 29, 200), lambda n: spread(n, 77, 61))]


class Expand(AnswerChecks, unittest.TestCase):
    def rows(self, key):
        """Both rows of round keys, cut into keys; the numbers around them are checked."""
        rounds = ROUNDS[len(key)]
        count = 16 + 16 * rounds
        answer = expand(key, len(key))
        self.assertIs(type(answer), list)
        for value in answer:
            self.assertIs(type(value), int)
            self.assertTrue(0 <= value <= 255, value)
        self.assertEqual(len(answer), 3 + 2 * count)
        self.assertEqual(answer[0], rounds)
        self.assertEqual(answer[1], count)
        self.assertEqual(answer[2 + count], count)
        return rows_of(16, answer[2:2 + count]), rows_of(16, answer[3 + count:])

    def test_the_published_schedules(self):
        for n, keys in ((16, SCHEDULE_16), (24, SCHEDULE_24), (32, SCHEDULE_32)):
            key = sum(keys, [])[:n]
            there, back = self.rows(key)
            self.assertEqual(there, keys)
            self.assertEqual(back, schedule_back(keys))

    def test_the_whole_list(self):
        for n, keys in ((16, SCHEDULE_16), (24, SCHEDULE_24), (32, SCHEDULE_32)):
            count = 16 * len(keys)
            there, back = sum(keys, []), sum(schedule_back(keys), [])
            self.assertEqual(expand(there[:n], n), [len(keys) - 1, count] + there + [count] + back)

    def test_numbers_of_rounds_and_bytes(self):
        for n, rounds, count in ((16, 10, 176), (24, 12, 208), (32, 14, 240)):
            answer = expand(spread(n, 11, 3), n)
            self.assertEqual([answer[0], answer[1], answer[2 + count], len(answer)], [rounds, count, count, 3 + 2 * count])

    def test_against_the_words_one_by_one(self):
        for key in KEYS:
            keys = schedule(key)
            there, back = self.rows(key)
            self.assertEqual(there, keys)
            self.assertEqual(back, schedule_back(keys))

    def test_every_byte_of_the_key_matters(self):
        for n in ROUNDS:
            for place in range(n):
                key = [0] * n
                key[place] = 1 << place % 8
                self.assertEqual(self.rows(key)[0], schedule(key))

    def test_the_key_itself_stands_first(self):
        for key in KEYS:
            there, back = self.rows(key)
            self.assertEqual(sum(there, [])[:len(key)], key)
            self.assertEqual(back[-1], key[:16])

    def test_the_way_back_is_the_opposite_order_mixed_back(self):
        for key in KEYS:
            there, back = self.rows(key)
            self.assertEqual(back[0], there[-1])
            self.assertEqual(back[-1], there[0])
            for i in range(1, len(there) - 1):
                self.assertEqual(back[i], mix_back(there[-1 - i]))
                self.assertEqual([0] + back[i], step(there[-1 - i], [0] * 16, 4))

    def test_the_steps_with_these_keys_go_there_and_back(self):
        for key, text, states in EXAMPLES:
            there, back = self.rows(key)
            last = len(there) - 1
            state = add(text, there[0])
            for i in range(1, last + 1):
                state = step(state, there[i], 1 if i == last else 0)[1:]
            self.assertEqual(state, states[-1])
            state = add(state, back[0])
            for i in range(1, last + 1):
                state = step(state, back[i], 3 if i == last else 2)[1:]
            self.assertEqual(state, text)

    def test_refused(self):
        for n in REFUSED:
            answer = expand([], n)
            self.assertIs(type(answer), list)
            self.assertEqual(answer, [0], n)
            self.assertIs(type(answer[0]), int)

    def test_every_small_number(self):
        for n in range(-40, 300):
            if n not in ROUNDS:
                self.assertEqual(expand([], n), [0], n)

    def test_keeps_nothing(self):
        for n in ROUNDS:
            first = [spread(n, 29, 200), n]
            self.check_keeps_nothing(expand, first, [spread(n, 11, 3), n])
            self.check_keeps_nothing(expand, first, [[], 15])
            for other in ROUNDS:
                if other != n:
                    self.check_keeps_nothing(expand, first, [spread(other, 29, 200), other])
                    self.check_keeps_nothing(expand, [[], 17], [spread(other, 29, 200), other])

    def test_wrong_input_leaves_nothing_behind(self):
        for n in ROUNDS:
            key = spread(n, 29, 200)
            wrong = [([], n), (key[:-1], n), (key + [1], n), (None, n), (key, None), (key, str(n)), (["1"] * n, n),
                     ([256] * n, n), ([-1] * n, n), (key, [n]), (5, 7)]
            self.check_unharmed_by_wrong_input(expand, [key, n], wrong)

    def test_wants_two_arguments(self):
        self.assertRaises(TypeError, expand, [1] * 16)
        self.assertRaises(TypeError, expand, [1] * 16, 16, 10)

    def test_nothing_is_printed(self):
        out, err = io.StringIO(), io.StringIO()
        with contextlib.redirect_stdout(out), contextlib.redirect_stderr(err):
            for n in list(ROUNDS) + [15]:
                expand([3] * n if n in ROUNDS else [], n)
        self.assertEqual(out.getvalue() + err.getvalue(), "")


if __name__ == "__main__":
    unittest.main()
