import subprocess
import sys
import unittest

from tests.lines import BIG, actors, ask, can, do, flat, give, give_n, set_, strike, take
from whatcanbe.roles import answers

LINE = flat([
    set_(1, 1), set_(2, 4), give(1, 2, [4], [3]), give_n(1, 2, BIG, 3), take(1, 4), actors(1, 2),
    can(2, 2), do(0, 1, 2), do(1, 1, 2), can(3, 2), strike(0), set_(1), actors(), strike(7),
])
TOLD = [
    1, 0, 1, 0, 1, 0, 1, -1, 1, 1, 1, 0,
    4, 1, 0, 1, 2, 3, 2, 2, 4, 2, 1, 2, 1, -3, 1, 1, 1, 0, 1, 0, 1, -2,
]


def forbidden(*anything):
    raise AssertionError("the list handed in is changed")


class Untouchable(list):
    """A list that cannot be changed, not for a while either."""

    append = extend = insert = pop = remove = clear = sort = reverse = forbidden
    __setitem__ = __delitem__ = __iadd__ = __imul__ = forbidden


class InterfaceTest(unittest.TestCase):
    def test_the_calls_lie_one_behind_another(self):
        self.assertEqual(answers(list(LINE)), TOLD)

    def test_written_out(self):
        self.assertEqual(answers([0, 1, 1, 1, 1, 1, 2, 0, 0, 6, 3, 1, 2]), [1, 0, 1, 0, 4, 1, 0, 1, 3])
        self.assertEqual(answers([2, 1, 4, 3, 0, 4, 0, 5, 0, 1, 1]), [1, 0, 1, 0, 1, 0, 1, -2])

    def test_one_call(self):
        self.assertEqual(answers([6, 1, 0]), [1, 0])
        self.assertEqual(answers([4, 0]), [1, 0])
        self.assertEqual(answers([3, BIG]), [1, -2])

    def test_forty_calls(self):
        self.assertEqual(answers([2, 1, 1] * 40), [1, 0, 1, 1, 1, 2, 1, 3, 1, 4, 1, 5] + [1, -5] * 34)

    def test_the_longest_rows(self):
        for call in (set_(1, *[BIG] * 20), give_n(1, 1, 20, *[BIG] * 20), actors(*[BIG] * 10), can(1, *[BIG] * 20)):
            self.assertEqual(ask(call, strike(0)), [[-1], [-2]], call)

    def test_whole_numbers_in_a_list(self):
        told = answers(list(LINE))
        self.assertIs(type(told), list)
        self.assertEqual({type(number) for number in told}, {int})

    def test_the_list_is_as_it_was(self):
        line = list(LINE)
        answers(line)
        self.assertEqual(line, LINE)

    def test_the_list_is_not_changed_for_a_while_either(self):
        self.assertEqual(answers(Untouchable(LINE)), TOLD)

    def test_each_time_is_as_if_the_first(self):
        look = flat([strike(0), actors(3), can(1, 1), set_(3, 1), take(1, 1), can(1), do(0, 3, 3)])
        first = [1, -2, 1, 0, 1, -3, 1, 0, 1, 0, 1, 0, 1, 0]
        for line, told in ((look, first), (LINE, TOLD), (look, first), (look, first), (LINE, TOLD), (LINE, TOLD)):
            self.assertEqual(answers(list(line)), told)

    def test_what_was_answered_is_nobody_elses(self):
        told = answers(list(LINE))
        told.clear()
        self.assertEqual(answers(list(LINE)), TOLD)

    def test_all_users_are_actors_again(self):
        asked = flat([set_(1, 1), give(1, 2), can(1, 2)])
        self.assertEqual(answers(asked)[-4:], [1, 0, 1, 1])
        answers(flat([actors()]))
        self.assertEqual(answers(asked)[-4:], [1, 0, 1, 1])

    def test_nothing_is_printed_or_read(self):
        code = f"from whatcanbe.roles import answers; answers({LINE})"
        done = subprocess.run([sys.executable, "-c", code], stdin=subprocess.DEVNULL, capture_output=True)
        self.assertEqual((done.returncode, done.stdout, done.stderr), (0, b"", b""))


if __name__ == "__main__":
    unittest.main()
