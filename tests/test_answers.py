"""wordrunner.desk.answers: how calls are handed in and what is given back (the interface)."""

import contextlib
import io
import unittest

from helper import BEGIN, MASK, PLACE, SIZE, code, get, give, go, octa, parted, read, run, special, write
from wordrunner.desk import answers


class Watched(list):
    """A list that tells when it is to be changed."""

    def refuse(self, *rest, **others):
        raise AssertionError("what was handed in was changed")

    __setitem__ = __delitem__ = __iadd__ = __imul__ = refuse
    append = clear = extend = insert = pop = remove = reverse = sort = refuse


def mixed_calls():
    """A hundred calls of all kinds."""
    calls = []
    for k in range(8):
        program = code((0x23, 1, 1, k), (0xAF, 1, 254, 64), (0xFD, 0, 0, 0), (0, 0, 0, k))
        calls += [
            BEGIN, write(512 * k, program), go(512 * k), give(1, 1000), run(2), PLACE, get(1), special(20), read(64, 8),
            run(5), special(29), read(SIZE - 2, k % 4),
        ]
    return calls + [run(-1), get(256), give(-1, 5), special(32)]


def mixed_answers():
    parts = []
    for k in range(8):
        end = [k % 4] + [0] * (k % 4) if k % 4 < 3 else [-1]
        parts += [[0], [0], [0], [0], [0], [0, 512 * k + 8], [0, 1000 + k], [0, 2], [8] + octa(1000 + k)]
        parts += [[1 if k == 0 else 2], [0, k], end]
    return parts + [[-8], [-8], [-8], [-8]]


def flat(calls):
    return [number for call in calls for number in call]


class Answers(unittest.TestCase):
    def test_one_call(self):
        self.assertEqual(answers([0]), [1, 0])
        self.assertEqual(answers([1, 7, 0]), [1, 0])
        self.assertEqual(answers([1, 7, 2, 5, 6]), [1, 0])
        self.assertEqual(answers([2, 7, 3]), [4, 3, 0, 0, 0])
        self.assertEqual(answers([2, 7, 0]), [1, 0])
        self.assertEqual(answers([2, 7, -1]), [1, -8])
        self.assertEqual(answers([2, SIZE, 1]), [1, -1])
        self.assertEqual(answers([3, 7]), [1, 0])
        self.assertEqual(answers([4, 0]), [1, 0])
        self.assertEqual(answers([4, 1]), [1, 1])
        self.assertEqual(answers([4, -1]), [1, -8])
        self.assertEqual(answers([5]), [2, 0, 0])
        self.assertEqual(answers([6, 3]), [2, 0, 0])
        self.assertEqual(answers([6, 256]), [1, -8])
        self.assertEqual(answers([7, 3, 9]), [1, 0])
        self.assertEqual(answers([7, 256, 9]), [1, -8])
        self.assertEqual(answers([8, 19]), [2, 0, 255])
        self.assertEqual(answers([8, 32]), [1, -8])

    def test_calls_one_behind_another(self):
        handed_in = [1, 8, 3, 4, 5, 6, 2, 7, 5, 3, 8, 4, 1, 0, 2, 8, 1]
        self.assertEqual(answers(handed_in), [1, 0, 6, 5, 0, 4, 5, 6, 0, 1, 0, 1, 0, 1, 0, 2, 1, 0])
        handed_in = [7, 5, 8, 6, 5, 5, 3, 7, 5, 8, 20, 7, -7, 6, 8, -7, 6, -7, 0, 6, 5, 5]
        self.assertEqual(answers(handed_in), [1, 0, 2, 0, 8, 2, 0, 0, 1, 0, 2, 0, 7, 2, 0, 6, 1, -8, 1, -8, 1, -8,
                                              1, 0, 2, 0, 0, 2, 0, 0])

    def test_a_hundred_calls_of_all_kinds(self):
        calls = mixed_calls()
        self.assertEqual(len(calls), 100)
        self.assertEqual({call[0] for call in calls}, set(range(9)))
        self.assertEqual(parted(answers(flat(calls))), mixed_answers())

    def test_bytes_that_look_like_calls(self):
        self.assertEqual(answers([1, 0, 5, 0, 1, 2, 3, 4, 2, 0, 5]), [1, 0, 6, 5, 0, 1, 2, 3, 4])

    def test_kinds_of_what_is_given_back(self):
        given = answers(flat(mixed_calls()))
        self.assertIs(type(given), list)
        self.assertEqual({type(number) for number in given}, {int})

    def test_what_is_handed_in_stays(self):
        handed_in = flat(mixed_calls())
        copy = list(handed_in)
        answers(handed_in)
        self.assertEqual(handed_in, copy)

    def test_nothing_is_changed_for_a_while_either(self):
        handed_in = flat(mixed_calls())
        self.assertEqual(answers(Watched(handed_in)), answers(handed_in))

    def test_nothing_is_kept(self):
        calls = flat(mixed_calls())
        first = answers(calls)
        self.assertEqual(answers(calls), first)
        answers(flat([write(0, [0xE3, 255, 0, 1, 0xFF]), run(2), go(99), give(7, MASK), give(255, MASK)]))
        self.assertEqual(answers(calls), first)
        self.assertEqual(answers([2, 0, 4]), [5, 4, 0, 0, 0, 0])
        self.assertEqual(answers([6, 7, 6, 255, 8, 20, 8, 19, 5]), [2, 0, 0, 2, 0, 0, 2, 0, 0, 2, 0, 255, 2, 0, 0])

    def test_what_is_given_back_is_the_callers(self):
        first = answers([2, 0, 4])
        first.clear()
        self.assertEqual(answers([2, 0, 4]), [5, 4, 0, 0, 0, 0])

    def test_nothing_is_printed(self):
        out = io.StringIO()
        with contextlib.redirect_stdout(out), contextlib.redirect_stderr(out):
            answers(flat(mixed_calls()))
        self.assertEqual(out.getvalue(), "")

    def test_a_long_list(self):
        data = [k % 256 for k in range(15000)]
        given = answers(flat([write(0, data)] + [read(0, 15000)] * 60))
        self.assertEqual(given, [1, 0] + ([15001, 15000] + data) * 60)


if __name__ == "__main__":
    unittest.main()
