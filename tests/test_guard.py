import unittest

from tests.lines import BIG, actors, ask, can, do, give, guard, held, house_behind, last, now, set_, strike, take

# Two ways to 4 for user 2, of two rules each.
TWO_WAYS = [set_(1, 1), give(1, 2), give(1, 4, [2]), give(1, 3), give(1, 4, [3])]


class GuardTest(unittest.TestCase):
    def test_no_rule_need_be_given_up(self):
        self.assertEqual(last(set_(1, 1), give(1, 2), guard(2, 3)), [0])
        self.assertEqual(last(set_(1, 1), give(1, 2), give(1, 3, [2], [2]), guard(2, 2, 3)), [0])
        self.assertEqual(last(give(1, 2), guard(2, 2)), [0])

    def test_there_are_no_rules(self):
        self.assertEqual(last(guard(1, 1)), [0])
        self.assertEqual(last(set_(1, 1, 2, 3), guard(1, 1, 4)), [0])
        self.assertEqual(last(set_(1, 1), give(1, 2), strike(0), guard(2, 2)), [0])

    def test_one_is_enough(self):
        self.assertEqual(last(set_(1, 1), give(1, 2), guard(2, 2)), [1, 0])
        self.assertEqual(last(set_(1, 1), give(1, 3), take(1, 3), give(1, 2), guard(2, 2)), [1, 2])
        self.assertEqual(last(set_(1, 1), give(1, 2), give(1, 2), give(1, 3, [2]), guard(2, 3)), [1, 2])

    def test_of_several_that_would_do_the_lowest(self):
        self.assertEqual(last(set_(1, 1), give(1, 2), give(1, 3, [2]), guard(2, 3)), [1, 0])
        self.assertEqual(last(set_(1, 1), give(1, 3, [2]), give(1, 2), guard(2, 3)), [1, 0])
        calls = [set_(1, 1), take(1, 1), give(1, 2), give(1, 3, [2]), give(1, 4, [3])]
        self.assertEqual(last(*calls, guard(2, 4)), [1, 1])

    def test_a_rule_to_take_may_be_the_one(self):
        calls = [set_(1, 1), set_(2, 2), give(1, 3, [], [2]), give(1, 3, [], [2, 4]), take(1, 2)]
        self.assertEqual(last(*calls, guard(2, 3)), [1, 2])

    def test_all_these_roles_together(self):
        calls = [set_(1, 1), give(1, 2), give(1, 2), give(1, 3)]
        self.assertEqual(last(*calls, guard(2, 2, 3)), [1, 2])
        self.assertEqual(last(*calls, guard(2, 2)), [2, 0, 1])
        self.assertEqual(last(*calls, set_(2, 3), guard(2, 2, 3)), [2, 0, 1])
        self.assertEqual(last(*calls, set_(2, 2), guard(2, 2, 3)), [1, 2])

    def test_two_are_needed_and_the_first_row_is_told(self):
        self.assertEqual(last(*TWO_WAYS, guard(2, 4)), [2, 0, 2])
        # These rows would do: 0 and 5, 1 and 2.
        calls = [set_(1, 1), give(1, 2), give(1, 3), give(1, 3), take(1, 4), take(2, 4), give(1, 2)]
        self.assertEqual(last(*calls, guard(2, 2, 3)), [2, 0, 5])
        # These would: 0 and 3, 1 and 2.
        calls = [set_(1, 1), give(1, 3), give(1, 2), give(1, 2), give(1, 3)]
        self.assertEqual(last(*calls, guard(2, 2, 3)), [2, 0, 3])
        # These would: 1 and 2, 1 and 4, 3 and 2, 3 and 4, behind a rule that doesn't matter.
        calls = [set_(1, 1), take(3, 4), *TWO_WAYS[1:]]
        self.assertEqual(last(*calls, guard(2, 4)), [2, 1, 3])

    def test_fewer_come_before_lower_numbers(self):
        calls = [set_(1, 1), give(1, 2), give(1, 2), give(1, 2), give(1, 3, [2]), give(1, 4, [3])]
        self.assertEqual(last(*calls, guard(2, 4)), [1, 3])
        self.assertEqual(last(*calls, guard(2, 2)), [3, 0, 1, 2])
        calls = [set_(1, 1), give(1, 2), give(1, 2), give(1, 2), give(1, 3), give(1, 3)]
        self.assertEqual(last(*calls, guard(2, 2, 3)), [2, 3, 4])

    def test_three_are_needed(self):
        calls = [set_(1, 1), give(1, 2), give(1, 3), give(1, 4, [2]), give(1, 4, [3]), give(1, 4, [2, 3]), give(1, 4)]
        self.assertEqual(last(*calls, guard(2, 4)), [3, 0, 1, 5])

    def test_all_rules_must_go(self):
        self.assertEqual(last(set_(1, 1), *[give(1, 2)] * 6, guard(2, 2)), [6, 0, 1, 2, 3, 4, 5])
        calls = [set_(1, 1, 2), set_(2, 3), set_(3, 4), *[give(a, 2, [], [1, 2]) for a in (1, 2, 3, 4)]]
        self.assertEqual(last(*calls, guard(2, 2)), [4, 0, 1, 2, 3])
        self.assertEqual(last(*calls, actors(2), guard(2, 2)), [1, 2])

    def test_just_what_the_actors_can_do_counts(self):
        calls = [set_(1, 1), set_(2, 2), give(1, 3), give(2, 3)]
        self.assertEqual(last(*calls, guard(3, 3)), [2, 0, 1])
        self.assertEqual(last(*calls, actors(1), guard(3, 3)), [1, 0])
        self.assertEqual(last(*calls, actors(2, 3), guard(3, 3)), [1, 1])
        self.assertEqual(last(*calls, actors(3), guard(3, 3)), [0])
        self.assertEqual(last(*calls, actors(), guard(3, 3)), [0])

    def test_one_user_helps_another(self):
        calls = [set_(1, 1), give(1, 2, [], [1]), give(1, 4), give(2, 3, [1])]
        self.assertEqual(last(*calls, guard(1, 3)), [1, 0])
        self.assertEqual(last(*calls, actors(1), guard(1, 3)), [0])

    def test_without_these_there_is_no_plan_and_with_fewer_there_is(self):
        self.assertEqual(last(*TWO_WAYS, strike(2), strike(0), can(2, 4)), [-3])
        for k in range(4):
            self.assertNotEqual(last(*TWO_WAYS, strike(k), can(2, 4)), [-3], k)

    def test_the_rules_are_all_still_there(self):
        rules = [5, 0, 1, 2, 0, 0, 1, 1, 2, 0, 0, 1, 1, 3, 1, 2, 1, 4, 1, 4, 4, 2, 1, 4, 1, 3, 1, 1, 2, 1, 3, 0]
        calls = [set_(1, 1), take(1, 2), give(1, 2), give(1, 3, [2], [4]), give(4, 4, [1, 4], [3]), give(1, 2, [3])]
        for v, r in ((2, 3), (2, 2), (2, 4), (1, 1), (3, 3)):
            found = ask(*calls, now(), guard(v, r), now())
            self.assertEqual((found[6], found[8]), (rules, rules))
        self.assertEqual(ask(*TWO_WAYS, guard(2, 4), can(2, 4), do(0, 1, 2), do(1, 1, 2))[5:],
                         [[2, 0, 2], [2, 0, 1, 2, 1, 1, 2], [1, 2], [2, 2, 4]])

    def test_asking_does_not_do_it(self):
        calls = [set_(1, 1), set_(3, 3), give(1, 2), give(1, 3, [2]), actors(1, 3)]
        for call in (guard(2, 2), guard(2, 3), guard(2, 4), guard(1, 1), guard(3)):
            self.assertEqual(house_behind(*calls, call), house_behind(*calls), call)
            self.assertEqual(held(*calls, call), [[1], [], [3]], call)
            first, again = ask(*calls, call, call)[5:]
            self.assertEqual(first, again, call)

    def refused(self, why, call):
        calls = [set_(1, 1), set_(2, 2, 4), give(1, 2), give(1, 3, [2]), actors(1, 2)]
        self.assertEqual(ask(*calls, call, guard(2, 3))[5:], [[why], [1, 1]], call)
        self.assertEqual(house_behind(*calls, call), house_behind(*calls), call)

    def test_no_such_user(self):
        for v in (0, 4, 5, BIG):
            self.refused(-1, guard(v, 1))
            self.refused(-1, guard(v))

    def test_no_such_role(self):
        for row in ([0], [5], [BIG], [0, 1], [4, 5], [1, BIG], [1, 2, 3, 4, 5]):
            self.refused(-1, guard(3, *row))

    def test_roles_that_do_not_rise(self):
        for row in ([1, 1], [2, 1], [1, 3, 2], [4, 4], [1, 2, 2], [1] * 20):
            self.refused(-1, guard(3, *row))

    def test_has_all_these_roles_already(self):
        for call in (guard(1, 1), guard(2, 2), guard(2, 4), guard(2, 2, 4), guard(1), guard(2), guard(3)):
            self.refused(-6, call)
        self.assertEqual(ask(guard(1), guard(2), guard(3)), [[-6]] * 3)
        self.assertEqual(last(set_(3, 1, 2, 3, 4), actors(), guard(3, 1, 2, 3, 4)), [-6])

    def test_of_several_the_first(self):
        for call in (guard(0), guard(4, 2, 1), guard(2, 2, 2), guard(2, 4, 2), guard(2, 2, 4, 5), guard(2, 0, 2)):
            self.refused(-1, call)

    def test_edges_that_are_not_refused(self):
        calls = [set_(2, 1), give(1, 1), give(1, 4)]
        for v in (1, 3):
            self.assertEqual(ask(*calls, guard(v, 1), guard(v, 4), guard(v, 1, 4))[3:], [[1, 0], [1, 1], [1, 0]])
            self.assertEqual(last(*calls, guard(v, 1, 2, 3, 4)), [0])


if __name__ == "__main__":
    unittest.main()
