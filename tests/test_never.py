import unittest

from tests.lines import BIG, actors, ask, do, give, held, house_behind, last, never, set_, take


class NeverTest(unittest.TestCase):
    def test_the_plan_without_steps(self):
        for v in (1, 2, 3):
            self.assertEqual(ask(set_(v, 2, 4), never(2, 4), never(4, 2))[1:], [[0], [0]], v)
        self.assertEqual(last(set_(1, 1), set_(2, 1, 2, 3, 4), give(1, 2), never(1, 3)), [0])
        self.assertEqual(last(set_(3, 1, 3), actors(), never(1, 3)), [0])

    def test_both_must_be_had_by_one_user(self):
        self.assertEqual(last(set_(1, 1), set_(2, 2), never(1, 2)), [-3])
        self.assertEqual(last(set_(1, 1), set_(2, 2), set_(3, 3, 4), never(1, 2)), [-3])

    def test_one_step(self):
        self.assertEqual(last(set_(1, 1), give(1, 2), never(1, 2)), [1, 0, 1, 1])
        self.assertEqual(last(set_(1, 1), give(1, 2), never(2, 1)), [1, 0, 1, 1])

    def test_the_same_role_twice(self):
        self.assertEqual(last(set_(2, 3), never(3, 3)), [0])
        self.assertEqual(last(set_(2, 3), never(4, 4)), [-3])
        self.assertEqual(last(set_(2, 3), give(3, 4), never(4, 4)), [1, 0, 2, 1])
        self.assertEqual(last(set_(2, 3), give(3, 4, [3]), never(4, 4)), [1, 0, 2, 2])

    def test_another_user_than_the_first(self):
        self.assertEqual(last(set_(1, 1), give(1, 2, [], [1]), give(1, 3, [2]), never(2, 3)), [2, 0, 1, 2, 1, 1, 2])
        self.assertEqual(last(set_(1, 1), set_(3, 4), give(1, 2, [4]), never(2, 4)), [1, 0, 1, 3])
        self.assertEqual(last(set_(1, 1), set_(2, 3), give(1, 2), never(2, 3)), [1, 0, 1, 2])

    def test_the_user_with_the_fewest_steps(self):
        calls = [set_(1, 1), set_(3, 3), give(1, 2), give(1, 3)]
        self.assertEqual(last(*calls, never(2, 3)), [1, 0, 1, 3])

    def test_one_user_helps_another(self):
        calls = [set_(1, 1), give(1, 2, [], [1]), give(2, 3, [1])]
        self.assertEqual(last(*calls, never(1, 3)), [2, 0, 1, 2, 1, 2, 1])

    def test_a_role_is_taken_on_the_way(self):
        calls = [set_(1, 1), set_(2, 2, 4), give(1, 3, [2], [4]), take(1, 4)]
        self.assertEqual(last(*calls, never(2, 3)), [2, 1, 1, 2, 0, 1, 2])

    def test_fewer_steps_come_before_lower_rules(self):
        calls = [set_(1, 1), set_(2, 3), give(1, 2, [1]), give(1, 3, [2]), give(1, 2, [3])]
        self.assertEqual(last(*calls, never(2, 3)), [1, 2, 1, 2])

    def test_first_differ_in_the_rule(self):
        calls = [set_(1, 1, 4), give(1, 2), give(4, 2)]
        self.assertEqual(last(*calls, never(2, 1)), [1, 0, 1, 1])
        # The lower rule is told though it is done to a later user.
        calls = [set_(1, 1), set_(2, 2), set_(3, 3), give(1, 2, [3]), give(1, 3, [2])]
        self.assertEqual(last(*calls, never(2, 3)), [1, 0, 1, 3])

    def test_first_differ_in_the_rule_at_a_later_step(self):
        calls = [set_(1, 1), give(1, 2), give(1, 3, [2]), give(2, 3, [2])]
        self.assertEqual(last(*calls, never(2, 3)), [2, 0, 1, 1, 1, 1, 1])

    def test_first_differ_in_who_does_it(self):
        calls = [set_(1, 1), set_(2, 1), set_(3, 1, 4), give(1, 2)]
        self.assertEqual(last(*calls, never(2, 4)), [1, 0, 1, 3])
        self.assertEqual(last(*calls, actors(2, 3), never(2, 4)), [1, 0, 2, 3])
        self.assertEqual(last(*calls, actors(3), never(2, 4)), [1, 0, 3, 3])

    def test_first_differ_in_whom_it_is_done_to(self):
        calls = [set_(1, 1), set_(2, 3), set_(3, 3), give(1, 2)]
        self.assertEqual(last(*calls, never(2, 3)), [1, 0, 1, 2])
        calls = [set_(1, 1), set_(2, 1), set_(3, 1), give(1, 2)]
        self.assertEqual(last(*calls, never(1, 2)), [1, 0, 1, 1])
        # One of the others has to be given 2, and either could then give 3.
        calls = [set_(1, 1), give(1, 2, [], [1]), give(2, 3, [1])]
        self.assertEqual(last(*calls, never(1, 3)), [2, 0, 1, 2, 1, 2, 1])
        self.assertEqual(last(*calls, actors(1, 3), never(1, 3)), [2, 0, 1, 3, 1, 3, 1])

    def test_no_plan(self):
        self.assertEqual(last(never(1, 2)), [-3])
        self.assertEqual(last(never(1, 1)), [-3])
        self.assertEqual(last(set_(1, 1), give(1, 2, [], [3]), give(1, 3, [], [2]), never(2, 3)), [-3])
        self.assertEqual(last(set_(1, 1), give(1, 2, [], [3]), give(1, 3, [], [2]), never(1, 3)), [1, 1, 1, 1])
        self.assertEqual(last(set_(1, 1), take(1, 1), never(1, 2)), [-3])

    def test_no_plan_as_those_who_could_are_no_actors(self):
        calls = [set_(1, 1), give(1, 2), give(2, 3)]
        self.assertEqual(last(*calls, actors(2, 3), never(2, 3)), [-3])
        self.assertEqual(last(*calls, actors(), never(2, 3)), [-3])
        self.assertEqual(last(*calls, actors(1), never(2, 3)), [2, 0, 1, 1, 1, 1, 1])
        calls = [set_(1, 1), give(1, 2, [], [1]), give(2, 3, [1])]
        self.assertEqual(last(*calls, actors(1), never(1, 3)), [-3])

    def test_refused(self):
        calls = [set_(1, 1), set_(2, 1, 4), give(1, 2), actors(1, 2)]
        wrong = [never(r, 1) for r in (0, 5, BIG)] + [never(1, q) for q in (0, 5, BIG)]
        wrong += [never(r, r) for r in (0, 5, BIG)] + [never(3, 5), never(0, 3), never(4, 0)]
        for call in wrong:
            self.assertEqual(ask(*calls, call, never(2, 4))[4:], [[-1], [1, 0, 1, 2]], call)
            self.assertEqual(house_behind(*calls, call), house_behind(*calls), call)

    def test_edges_that_are_not_refused(self):
        for r, q in ((1, 1), (1, 4), (4, 1), (4, 4)):
            self.assertEqual(last(never(r, q)), [-3])
            self.assertEqual(last(set_(2, 1, 4), never(r, q)), [0])

    def test_asking_does_not_do_it(self):
        calls = [set_(1, 1), set_(2, 4), give(1, 2), take(2, 4), actors(1, 2)]
        for call in (never(2, 4), never(1, 1), never(3, 1)):
            self.assertEqual(house_behind(*calls, call), house_behind(*calls), call)
            self.assertEqual(held(*calls, call), [[1], [4], []], call)
            first, again = ask(*calls, call, call)[5:]
            self.assertEqual(first, again, call)

    def test_a_plan_can_be_done_and_then_has_no_steps(self):
        calls = [set_(1, 1), give(1, 2, [], [1]), give(1, 3, [2])]
        self.assertEqual(ask(*calls, do(0, 1, 2), never(2, 3), do(1, 1, 2), never(2, 3))[3:],
                         [[1, 2], [1, 1, 1, 2], [2, 2, 3], [0]])


if __name__ == "__main__":
    unittest.main()
