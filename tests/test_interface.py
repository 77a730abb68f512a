import subprocess
import sys
import time
import unittest

from tests.lines import BIG, actors, ask, can, do, flat, give, give_n, guard, lose, many, never, now, roles, set_
from tests.lines import strike, take
from whatcanbe.roles import answers

LINE = flat([
    set_(1, 1), set_(2, 4), give(1, 2, [4], [3]), give_n(1, 2, BIG, 3), take(1, 4), actors(1, 2),
    can(2, 2), lose(2, 4), now(), never(4, 2), many(), roles(2), guard(2, 2, 4), guard(2, 4), lose(1, 1),
    do(0, 1, 2), many(), do(1, 1, 2), roles(2), never(3, 3), can(3, 2), guard(3, 2), strike(0), set_(1), roles(1),
    many(), actors(), strike(7), lose(BIG, 1), never(1, BIG), guard(1, 2, 1), roles(BIG), now(),
])
TOLD = [
    1, 0, 1, 0, 1, 0, 1, -1, 1, 1, 1, 0,
    4, 1, 0, 1, 2, 4, 1, 1, 1, 2, 13, 2, 1, 1, 2, 1, 4, 1, 3, 0, 1, 4, 0, 0, 4, 1, 0, 1, 2, 1, 4, 2, 1, 4, 2, 1, 0,
    1, -6, 1, -3, 3, 2, 2, 4, 1, 2, 2, 1, 2, 2, 1, 2, 1, -3, 1, -3, 1, 0, 1, 1, 1, 0, 1, 0,
    1, 1, 1, 0, 1, -2, 1, -1, 1, -1, 1, -1, 1, -1, 6, 1, 0, 1, 4, 0, 0,
]

# From here every way of having the roles can be come to; no house has more.
WIDEST = [set_(1, 1), *[give(1, r) for r in (1, 2, 3, 4)], take(1, 1), take(1, 2)]


def forbidden(*anything):
    raise AssertionError("the list handed in is changed")


class Untouchable(list):
    """A list that cannot be changed, not for a while either."""

    append = extend = insert = pop = remove = clear = sort = reverse = forbidden
    __setitem__ = __delitem__ = __iadd__ = __imul__ = forbidden


class InterfaceTest(unittest.TestCase):
    def test_the_calls_lie_one_behind_another(self):
        self.assertEqual(answers(list(LINE)), TOLD)

    def test_written_out(self):
        self.assertEqual(answers([0, 1, 1, 1, 1, 1, 2, 0, 0, 6, 3, 1, 2]), [1, 0, 1, 0, 4, 1, 0, 1, 3])
        self.assertEqual(answers([2, 1, 4, 3, 0, 4, 0, 5, 0, 1, 1]), [1, 0, 1, 0, 1, 0, 1, -2])
        self.assertEqual(answers([0, 2, 1, 1, 2, 1, 1, 7, 2, 1, 8, 1, 1, 10, 11, 2, 12]),
                         [1, 0, 1, 0, 4, 1, 0, 2, 2, 1, 0, 1, 2, 2, 1, 1, 6, 1, 0, 1, 1, 0, 0])
        self.assertEqual(answers([0, 2, 1, 1, 1, 1, 3, 1, 2, 1, 2, 9, 2, 1, 3, 9, 2, 0]),
                         [1, 0, 1, 0, 2, 1, 0, 1, -6])

    def test_one_call(self):
        self.assertEqual(answers([6, 1, 0]), [1, 0])
        self.assertEqual(answers([4, 0]), [1, 0])
        self.assertEqual(answers([3, BIG]), [1, -2])
        self.assertEqual(answers([7, 1, 1]), [1, 0])
        self.assertEqual(answers([8, 1, 1]), [1, -3])
        self.assertEqual(answers([9, 1, 1, 1]), [1, 0])
        self.assertEqual(answers([10]), [1, 1])
        self.assertEqual(answers([11, 3]), [1, 0])
        self.assertEqual(answers([12]), [1, 0])

    def test_forty_calls(self):
        self.assertEqual(answers([2, 1, 1] * 40), [1, 0, 1, 1, 1, 2, 1, 3, 1, 4, 1, 5] + [1, -5] * 34)
        self.assertEqual(answers([10] * 40), [1, 1] * 40)

    def test_a_thousand_numbers(self):
        line = flat([give_n(1, 1, 0, *[4] * 20)] * 40)
        self.assertEqual(len(line), 1000)
        self.assertEqual(answers(line), [1, -1] * 40)

    def test_the_longest_rows(self):
        for call in (set_(1, *[BIG] * 20), give_n(1, 1, 20, *[BIG] * 20), actors(*[BIG] * 10), can(1, *[BIG] * 20),
                     guard(1, *[BIG] * 20)):
            self.assertEqual(ask(call, strike(0)), [[-1], [-2]], call)

    def answered_soon(self, *calls):
        begun = time.process_time()
        told = ask(*calls)
        self.assertLess(time.process_time() - begun, 10)
        return told

    def test_the_largest_search_forty_calls_long(self):
        self.assertEqual(self.answered_soon(*WIDEST, *[many()] * 33)[7:], [[4096]] * 33)
        both = [*WIDEST, *[guard(3, 1, 2, 3, 4)] * 16, *[can(3, 1, 2, 3, 4)] * 17]
        self.assertEqual(self.answered_soon(*both)[7:], [[1, 0]] * 16 + [[4, 0, 1, 3, 1, 1, 3, 2, 1, 3, 3, 1, 3]] * 17)

    def test_a_large_search_without_a_plan(self):
        calls = [*WIDEST, set_(2, 3), *[lose(2, 3)] * 32]
        self.assertEqual(self.answered_soon(*calls)[8:], [[-3]] * 32)
        # Nobody comes to have both 3 and 4.
        calls = [set_(1, 1), give(1, 1), give(1, 2), give(1, 3, [], [4]), give(1, 4, [], [3]), take(1, 1), take(1, 2)]
        told = self.answered_soon(*calls, many(), *[never(3, 4)] * 16, *[can(2, 3, 4)] * 16)
        self.assertEqual(told[7:], [[1728]] + [[-3]] * 32)

    def test_the_longest_guards(self):
        calls = [set_(3, 2), give(4, 3, [], [2]), take(3, 2), give(2, 1), give(2, 4), give(2, 2), give(2, 3, [], [2])]
        told = self.answered_soon(*calls, *[guard(3, 1, 2, 3, 4)] * 33)
        self.assertEqual(told[7:], [[1, 1]] * 33)

    def test_whole_numbers_in_a_list(self):
        told = answers(list(LINE))
        self.assertIs(type(told), list)
        self.assertEqual({type(number) for number in told}, {int})

    def test_the_list_is_as_it_was(self):
        line = list(LINE)
        answers(line)
        self.assertEqual(line, LINE)

    def test_the_list_is_not_changed_for_a_while_either(self):
        self.assertEqual(answers(Untouchable(LINE)), TOLD)

    def test_each_time_is_as_if_the_first(self):
        look = flat([strike(0), actors(3), can(1, 1), set_(3, 1), take(1, 1), can(1), do(0, 3, 3)])
        first = [1, -2, 1, 0, 1, -3, 1, 0, 1, 0, 1, 0, 1, 0]
        for line, told in ((look, first), (LINE, TOLD), (look, first), (look, first), (LINE, TOLD), (LINE, TOLD)):
            self.assertEqual(answers(list(line)), told)

    def test_what_was_answered_is_nobody_elses(self):
        told = answers(list(LINE))
        told.clear()
        self.assertEqual(answers(list(LINE)), TOLD)

    def test_all_users_are_actors_again(self):
        asked = flat([set_(1, 1), give(1, 2), can(1, 2)])
        self.assertEqual(answers(asked)[-4:], [1, 0, 1, 1])
        answers(flat([actors()]))
        self.assertEqual(answers(asked)[-4:], [1, 0, 1, 1])

    def run_silently(self, code):
        """Runs this in a Python of its own; it is to end well and to print nothing."""
        done = subprocess.run([sys.executable, "-c", code], stdin=subprocess.DEVNULL, capture_output=True)
        self.assertEqual((done.returncode, done.stdout, done.stderr), (0, b"", b""))

    def test_nothing_is_printed_or_read(self):
        self.run_silently(f"from whatcanbe.roles import answers; answers({LINE})")

    def test_nothing_is_imported(self):
        self.run_silently(
            f"import sys; from whatcanbe.roles import answers; before = set(sys.modules); answers({LINE}); "
            "sys.exit(set(sys.modules) != before)")
        self.run_silently(
            "import sys; before = set(sys.modules); from whatcanbe.roles import answers; "
            "sys.exit(any(name.split('.')[0] != 'whatcanbe' for name in set(sys.modules) - before))")

    def test_not_deep(self):
        self.run_silently(
            "import sys; from whatcanbe.roles import answers; sys.setrecursionlimit(50); "
            f"answers({flat([*WIDEST, many(), guard(3, 1, 2, 3, 4)])}); answers({LINE})")


if __name__ == "__main__":
    unittest.main()
