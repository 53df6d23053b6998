"""Promise 4: step."""

import contextlib
import io
import unittest

from cipherparts.bytesteps import affine, inverse, step
from tests.published import EXAMPLES, EXAMPLES_BACK
from tests.reference import (
    CIPHER, MIXING, MIXING_BACK, SUBSTITUTES, add, long_product, plain_step, schedule, schedule_back)
from tests.support import AnswerChecks, rows_of, spread

NO_KEY = [0] * 16
OTHER_NUMBERS = [-1, 5, 6, 7, -2, -4, 10, 100, 256, 2 ** 16, -2147483648, 2147483647]
STATES = [[0] * 16, [255] * 16, list(range(16)), spread(16, 11, 3), spread(16, 29, 200), spread(16, 77, 61)]
KEYS = [[0] * 16, [255] * 16, list(range(240, 256)), spread(16, 5, 91), spread(16, 43, 17)]


def unit(place, value):
    state = [0] * 16
    state[place] = value
    return state


class Step(AnswerChecks, unittest.TestCase):
    def bytes_of(self, s, k, which):
        answer = step(s, k, which)
        self.check_bytes(answer, 16)
        return answer[1:]

    def test_the_rounds_of_the_published_examples(self):
        for key, text, states in EXAMPLES:
            keys = schedule(key)
            last = len(states) - 1
            self.assertEqual(add(text, keys[0]), states[0])
            for i in range(1, last):
                self.assertEqual(self.bytes_of(states[i - 1], keys[i], 0), states[i])
            self.assertEqual(self.bytes_of(states[last - 1], keys[last], 1), states[last])

    def test_the_published_way_back(self):
        for key, text, states, back in EXAMPLES_BACK:
            keys = schedule_back(schedule(key))
            last = len(back) - 1
            self.assertEqual(add(states[-1], keys[0]), back[0])
            for i in range(1, last):
                self.assertEqual(self.bytes_of(back[i - 1], keys[i], 2), back[i])
            self.assertEqual(self.bytes_of(back[last - 1], keys[last], 3), back[last])
            self.assertEqual(back[last], text)

    def test_against_the_parts_one_by_one(self):
        for which in range(5):
            for s in STATES:
                for k in KEYS:
                    self.assertEqual(self.bytes_of(s, k, which), plain_step(s, k, which), which)

    def test_every_byte_is_substituted(self):
        images = []
        back = []
        for row in rows_of(16, range(256)):
            images.extend(plain_step(self.bytes_of(row, NO_KEY, 1), NO_KEY, 3))
            back.extend(plain_step(self.bytes_of(row, NO_KEY, 3), NO_KEY, 1))
        self.assertEqual(images, list(range(256)))
        self.assertEqual(back, list(range(256)))
        for x in range(256):
            self.assertEqual(step([x] * 16, NO_KEY, 1), [0] + [SUBSTITUTES[x]] * 16)
            self.assertEqual(step([SUBSTITUTES[x]] * 16, NO_KEY, 3), [0] + [x] * 16)

    def test_the_substitution_is_that_of_inverse_and_affine(self):
        for row in rows_of(64, range(256)):
            expected = affine(inverse(row)[1:], CIPHER * 8, 0x63)[1:]
            self.assertEqual([step([x] * 16, NO_KEY, 1)[1] for x in row], expected)

    def test_where_each_byte_goes(self):
        # 0x52 is what is substituted by 0, and 0x63 what stands for 0.
        for column in range(4):
            for row in range(4):
                place = 4 * column + row
                there = 4 * ((column - row) % 4) + row
                back = 4 * ((column + row) % 4) + row
                s = [0x52] * 16
                s[place] = 0x53
                self.assertEqual(self.bytes_of(s, NO_KEY, 1), unit(there, 0xED))
                s = [0x63] * 16
                s[place] = 0xED
                self.assertEqual(self.bytes_of(s, NO_KEY, 3), unit(back, 0x53))

    def test_each_factor_of_the_mixing(self):
        for column in range(4):
            for row in range(4):
                for value in (1, 2, 0x80, 0xFF):
                    expected = [0] * 16
                    for r in range(4):
                        expected[4 * column + r] = long_product(MIXING_BACK[r][row], value)
                    self.assertEqual(self.bytes_of(unit(4 * column + row, value), NO_KEY, 4), expected)
                    for r in range(4):
                        expected[4 * column + r] = long_product(MIXING[r][row], value)
                    self.assertEqual(self.bytes_of(expected, NO_KEY, 4), unit(4 * column + row, value))

    def test_there_and_back_without_a_key(self):
        for s in STATES:
            unmixed = self.bytes_of(s, NO_KEY, 1)
            mixed = self.bytes_of(s, NO_KEY, 0)
            self.assertEqual(self.bytes_of(unmixed, NO_KEY, 3), s)
            self.assertEqual(self.bytes_of(mixed, NO_KEY, 4), unmixed)
            self.assertEqual(self.bytes_of(self.bytes_of(s, NO_KEY, 3), NO_KEY, 1), s)
            self.assertEqual(self.bytes_of(s, NO_KEY, 2), self.bytes_of(self.bytes_of(s, NO_KEY, 3), NO_KEY, 4))

    def test_the_key_is_added_last(self):
        for which in range(5):
            for s in STATES:
                plain = self.bytes_of(s, NO_KEY, which)
                for k in KEYS:
                    self.assertEqual(self.bytes_of(s, k, which), add(plain, k))

    def test_of_any_other_number_the_state_itself(self):
        for which in OTHER_NUMBERS:
            for s in STATES:
                for k in KEYS:
                    self.assertEqual(self.bytes_of(s, k, which), s)

    def test_one_list_twice(self):
        s = spread(16, 29, 200)
        for which in range(6):
            self.assertEqual(step(s, s, which), [0] + plain_step(s, s, which))

    def test_keeps_nothing(self):
        s, k = spread(16, 29, 200), spread(16, 43, 17)
        for which in [0, 1, 2, 3, 4] + OTHER_NUMBERS:
            self.check_keeps_nothing(step, [s, k, which], [spread(16, 11, 3), k, which])
            self.check_keeps_nothing(step, [s, k, which], [s, k, 1 if which == 0 else 0])
        for which in range(5):
            self.check_keeps_nothing(step, [s, k, which], [s, spread(16, 5, 91), which])

    def test_wrong_input_leaves_nothing_behind(self):
        s, k = spread(16, 29, 200), spread(16, 43, 17)
        wrong = [([], [], 0), (s[:15], k, 0), (s, k[:15], 2), (None, k, 1), (s, None, 1), (s, k, None), (s, k, "0"),
                 (["1"] * 16, k, 0), ([256] * 16, k, 0), ([-1] * 16, k, 2), (s, ["1"] * 16, 3), (5, 7, 9)]
        for which in range(6):
            self.check_unharmed_by_wrong_input(step, [s, k, which], wrong)

    def test_wants_three_arguments(self):
        self.assertRaises(TypeError, step, [1] * 16, [1] * 16)
        self.assertRaises(TypeError, step, [1] * 16, [1] * 16, 0, 0)

    def test_nothing_is_printed(self):
        out, err = io.StringIO(), io.StringIO()
        with contextlib.redirect_stdout(out), contextlib.redirect_stderr(err):
            for which in range(6):
                step([3] * 16, [7] * 16, which)
        self.assertEqual(out.getvalue() + err.getvalue(), "")


if __name__ == "__main__":
    unittest.main()
