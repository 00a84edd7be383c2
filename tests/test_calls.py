"""What holds of every call: nothing handed in is changed, nothing is kept, nothing is printed."""

import contextlib
import io
import unittest

from calls import all_calls
from reckoning import Source


class Guarded(list):
    """A list that fails where it is changed, be it for a while alone."""

    def fail(self, *arguments, **named):
        raise AssertionError("what was handed in was changed")

    append = clear = extend = insert = pop = remove = reverse = sort = fail
    __setitem__ = __delitem__ = __iadd__ = __imul__ = fail


def pairs():
    source = Source(6)
    return [
        (source.small(3, 3), source.small(3, 3)),
        (source.great(4, 4), source.great(4, 4)),
        (source.small(2, 5), source.small(5, 2)),
        (source.small(5, 2), source.small(5, 3)),
        (source.poor(4, 4, 2), source.small(4, 4)),
        (source.small(9, 9), source.great(9, 9)),
        ([3, 3, 0, 1, 1, 2, -1, 3, 1, 2, 0, 1, 5, 1, -1, 3, 5, 1, 0, 1], source.small(3, 2)),
        (source.small(1, 9), source.great(1, 4)),
        (source.great(1, 5), source.great(1, 5)),
        (source.small(1, 3), [1, 2, 0, 1, 0, 1]),
        (source.great(1, 3), source.great(3, 3)),
        ([], [1, 1, 1, 0]),
        ([1, 1, 1, 1], [1]),
    ]


class Calls(unittest.TestCase):

    def test_what_is_handed_in_is_not_changed(self):
        for a, b in pairs():
            first, second = list(a), list(b)
            all_calls(first, second)
            self.assertEqual((first, second), (a, b))

    def test_what_is_handed_in_is_not_changed_for_a_while(self):
        for a, b in pairs():
            self.assertEqual(all_calls(Guarded(a), Guarded(b)), all_calls(a, b))

    def test_one_list_handed_in_twice(self):
        for a, b in pairs():
            self.assertEqual(all_calls(a, a), all_calls(a, list(a)))

    def test_the_same_is_answered_again(self):
        expected = [all_calls(a, b) for a, b in pairs()]
        again = [all_calls(a, b) for a, b in reversed(pairs())]
        self.assertEqual(again, list(reversed(expected)))

    def test_an_answer_that_is_changed_changes_no_other(self):
        for a, b in pairs():
            expected = [list(answer) for answer in all_calls(a, b)]
            for answer in all_calls(a, b):
                answer[:] = [99] * len(answer)
            self.assertEqual(all_calls(a, b), expected)

    def test_kinds(self):
        for a, b in pairs():
            for answer in all_calls(a, b):
                self.assertIs(type(answer), list)
                self.assertEqual({type(number) for number in answer}, {int})
                self.assertTrue(answer[0] == 0 or answer in ([-6], [-1], [-4], [-5]))

    def test_nothing_is_printed(self):
        output, errors = io.StringIO(), io.StringIO()
        with contextlib.redirect_stdout(output), contextlib.redirect_stderr(errors):
            for a, b in pairs():
                all_calls(a, b)
        self.assertEqual((output.getvalue(), errors.getvalue()), ("", ""))


if __name__ == "__main__":
    unittest.main()
