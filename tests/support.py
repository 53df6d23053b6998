"""What several tests share."""

LOWEST, HIGHEST = -2147483648, 2147483647
# Numbers of blocks that are refused, whatever else is handed in.
REFUSED_N = [-1, 4097, -2, -16, -32, -4096, 5000, 65536, LOWEST, HIGHEST]


def refuse(*args, **kwargs):
    raise AssertionError("what is handed in was changed")


class Watched(list):
    """A list that fails the test as soon as anything changes it, were it only for a while."""

    __setitem__ = __delitem__ = __iadd__ = __imul__ = refuse
    append = clear = extend = insert = pop = remove = reverse = sort = refuse


def rows_of(count, values):
    """values, cut into lists of count."""
    values = list(values)
    return [values[i:i + count] for i in range(0, len(values), count)]


def spread(count, factor, offset):
    """count bytes that look mixed and are the same every time."""
    return [(i * i * 7 + i * factor + offset) % 256 for i in range(count)]


class AnswerChecks:
    """Checks that hold for every function; mixed into a TestCase."""

    def check_bytes(self, answer, count):
        self.assertIs(type(answer), list)
        self.assertEqual(len(answer), count + 1)
        self.assertEqual(answer[0], 0)
        for value in answer:
            self.assertIs(type(value), int)
            self.assertTrue(0 <= value <= 255, value)

    def check_row(self, answer, n, count):
        """n, then one row of count bytes with its count ahead."""
        self.assertIs(type(answer), list)
        self.assertEqual(answer[:2], [n, count])
        self.assertEqual(len(answer), 2 + count)
        for value in answer:
            self.assertIs(type(value), int)
        for value in answer[2:]:
            self.assertTrue(0 <= value <= 255, value)

    def check_refused(self, answer):
        self.assertIs(type(answer), list)
        self.assertEqual(answer, [-1])
        self.assertIs(type(answer[0]), int)

    def check_keeps_nothing(self, function, first, other):
        """first and other are rows of arguments; the lists in them are watched."""
        watched = [Watched(v) if isinstance(v, list) else v for v in first]
        before = [list(v) if isinstance(v, list) else v for v in first]
        answer = function(*watched)
        self.assertEqual(watched, before)
        kept = list(answer)
        self.assertEqual(function(*watched), kept)
        self.assertNotEqual(function(*other), kept)
        self.assertEqual(function(*watched), kept)
        # Whoever gets an answer may change it without touching the next one.
        answer[0] = 99
        answer.clear()
        self.assertEqual(function(*watched), kept)
        self.assertEqual(watched, before)

    def check_unharmed_by_wrong_input(self, function, right, wrong_rows):
        """The document names no answer for wrong input; the next right call must not notice it."""
        expected = function(*right)
        for wrong in wrong_rows:
            try:
                function(*wrong)
            except Exception:
                pass
            self.assertEqual(function(*right), expected, wrong)
