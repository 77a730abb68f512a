import unittest

from tests.lines import BIG, actors, ask, can, do, give, held, last, set_, take


class CanTest(unittest.TestCase):
    def test_the_plan_without_steps(self):
        self.assertEqual(last(set_(2, 1, 3), can(2, 1, 3)), [0])
        self.assertEqual(last(set_(2, 1, 3), can(2, 3)), [0])
        self.assertEqual(last(set_(2, 1, 2, 3, 4), can(2, 1, 2, 3, 4)), [0])
        self.assertEqual(last(set_(2, 1), give(1, 2), can(2, 1)), [0])
        self.assertEqual(last(set_(2, 1), actors(), can(2, 1)), [0])

    def test_no_roles_are_had_by_all(self):
        self.assertEqual(ask(can(1), can(2), can(3)), [[0], [0], [0]])
        self.assertEqual(last(set_(1, 1), give(1, 2), can(3)), [0])

    def test_one_step(self):
        self.assertEqual(last(set_(1, 1), give(1, 2), can(3, 2)), [1, 0, 1, 3])

    def test_other_roles_do_not_matter(self):
        self.assertEqual(last(set_(1, 1), set_(3, 4), give(1, 2), can(3, 2)), [1, 0, 1, 3])

    def test_all_the_roles_at_once(self):
        calls = [set_(1, 1), give(1, 2), take(1, 2), give(1, 3, [2])]
        self.assertEqual(last(*calls, can(2, 3)), [2, 0, 1, 2, 2, 1, 2])
        self.assertEqual(last(*calls, can(2, 2, 3)), [2, 0, 1, 2, 2, 1, 2])
        self.assertEqual(last(set_(1, 1), give(1, 2, [], [3]), give(1, 3, [], [2]), can(2, 2, 3)), [-3])

    def test_one_user_helps_another(self):
        # Nobody who has 1 may give 3, so 2 has to be made one who may.
        calls = [set_(1, 1), give(1, 2, [], [1]), give(2, 3, [1])]
        self.assertEqual(last(*calls, can(1, 3)), [2, 0, 1, 2, 1, 2, 1])

    def test_two_users_help_one_another(self):
        calls = [set_(1, 1), set_(2, 2), give(1, 3, [2]), give(3, 4, [1]), give(4, 1, [3])]
        self.assertEqual(last(*calls, can(2, 1)), [3, 0, 1, 2, 1, 2, 1, 2, 1, 2])

    def test_a_role_is_taken_on_the_way(self):
        calls = [set_(1, 1), set_(2, 2), give(1, 3, [], [2]), take(1, 2)]
        self.assertEqual(last(*calls, can(2, 3)), [2, 1, 1, 2, 0, 1, 2])

    def test_a_role_is_given_used_and_taken_again(self):
        calls = [set_(1, 1), give(1, 2), give(1, 3, [2]), take(1, 2), give(1, 4, [3], [2])]
        self.assertEqual(last(*calls, can(2, 4)), [4, 0, 1, 2, 1, 1, 2, 2, 1, 2, 3, 1, 2])

    def test_who_acts_may_give_away_the_own_role(self):
        calls = [set_(1, 1, 2), give(2, 3, [], [1]), take(1, 1)]
        self.assertEqual(last(*calls, can(1, 3)), [2, 1, 1, 1, 0, 1, 1])
        self.assertEqual(last(set_(1, 1), give(1, 3, [], [1]), take(1, 1), can(1, 3)), [-3])

    def test_fewer_steps_come_before_lower_rules(self):
        calls = [set_(1, 1), give(1, 2), give(1, 3, [2]), give(1, 3)]
        self.assertEqual(last(*calls, can(2, 3)), [1, 2, 1, 2])

    def test_first_differ_in_the_rule(self):
        calls = [set_(1, 2), set_(2, 1), give(1, 3), give(2, 3)]
        self.assertEqual(last(*calls, can(3, 3)), [1, 0, 2, 3])
        calls = [set_(1, 1), give(1, 3), give(1, 2), give(1, 4, [2]), give(1, 4, [3])]
        self.assertEqual(last(*calls, can(2, 4)), [2, 0, 1, 2, 3, 1, 2])

    def test_first_differ_in_the_rule_at_a_later_step(self):
        calls = [set_(1, 1), give(1, 2), take(4, 1), give(1, 3, [2]), give(2, 3, [2])]
        self.assertEqual(last(*calls, can(1, 3)), [2, 0, 1, 1, 2, 1, 1])

    def test_first_differ_in_who_does_it(self):
        calls = [set_(1, 1), set_(2, 1), set_(3, 1), give(1, 2)]
        self.assertEqual(last(*calls, can(3, 2)), [1, 0, 1, 3])
        self.assertEqual(last(*calls, actors(2, 3), can(1, 2)), [1, 0, 2, 1])
        self.assertEqual(last(set_(3, 1), set_(2, 1), give(1, 2), can(3, 2)), [1, 0, 2, 3])

    def test_first_differ_in_who_at_a_later_step(self):
        calls = [set_(1, 1), set_(2, 1), give(1, 2), give(1, 3, [2], [1])]
        self.assertEqual(last(*calls, can(3, 3)), [2, 0, 1, 3, 1, 1, 3])
        calls = [set_(3, 1), set_(2, 2), give(1, 2, [], [1]), give(2, 3)]
        self.assertEqual(last(*calls, actors(1, 3), can(2, 3)), [2, 0, 3, 1, 1, 1, 2])

    def test_first_differ_in_whom_it_is_done_to(self):
        # One of the others has to be given 2, and either could then give 3.
        calls = [set_(1, 1), give(1, 2, [], [1]), give(2, 3)]
        self.assertEqual(last(*calls, can(1, 3)), [2, 0, 1, 2, 1, 2, 1])
        calls = [set_(3, 1), give(1, 2), give(2, 3)]
        self.assertEqual(last(*calls, can(3, 3)), [2, 0, 3, 1, 1, 1, 3])
        self.assertEqual(last(*calls, actors(2, 3), can(3, 3)), [2, 0, 3, 2, 1, 2, 3])

    def test_no_plan(self):
        self.assertEqual(last(can(1, 1)), [-3])
        self.assertEqual(last(give(1, 2), can(1, 2)), [-3])
        self.assertEqual(last(set_(1, 1), give(1, 2, [3]), can(1, 2)), [-3])
        self.assertEqual(last(set_(1, 1), give(1, 2, [3], [3]), give(1, 3), can(1, 2)), [-3])
        self.assertEqual(last(set_(1, 1), take(1, 2), can(1, 2)), [-3])

    def test_no_plan_as_those_who_could_are_no_actors(self):
        calls = [set_(1, 1), give(1, 2), give(2, 3)]
        self.assertEqual(last(*calls, actors(2, 3), can(2, 3)), [-3])
        self.assertEqual(last(*calls, actors(), can(2, 3)), [-3])
        self.assertEqual(last(*calls, actors(1), can(2, 3)), [2, 0, 1, 1, 1, 1, 2])
        self.assertEqual(last(*calls, actors(1, 2), can(2, 3)), [2, 0, 1, 1, 1, 1, 2])

    def test_no_actor_may_help_though_given_to(self):
        calls = [set_(1, 1), give(1, 2, [], [1]), give(2, 3, [1])]
        self.assertEqual(last(*calls, actors(1, 3), can(1, 3)), [2, 0, 1, 3, 1, 3, 1])
        self.assertEqual(last(*calls, actors(1), can(1, 3)), [-3])

    def test_refused(self):
        calls = [set_(1, 1), give(1, 2)]
        wrong = [can(v, 1) for v in (0, 4, BIG)] + [can(0), can(4)]
        wrong += [can(1, *row) for row in ([0], [5], [BIG], [0, 1], [4, 5], [1, 1], [2, 1], [1] * 20)]
        wrong += [can(0, 2, 1), can(2, 3, 5), can(2, 4, 3)]
        for call in wrong:
            self.assertEqual(ask(*calls, call, can(2, 2))[2:], [[-1], [1, 0, 1, 2]], call)
            self.assertEqual(held(*calls, call), [[1], [], []], call)

    def test_asking_does_not_do_it(self):
        calls = [set_(1, 1), give(1, 2), take(2, 1)]
        for call in (can(2, 2), can(2, 3), can(1)):
            self.assertEqual(held(*calls, call), [[1], [], []], call)
            first, again = ask(*calls, call, call)[3:]
            self.assertEqual(first, again, call)

    def test_a_plan_can_be_done_and_then_has_no_steps(self):
        calls = [set_(1, 1), give(1, 2), give(1, 3, [2]), take(1, 2), give(1, 4, [3], [2])]
        plan = last(*calls, can(3, 4))
        steps = [do(*plan[at:at + 3]) for at in range(1, len(plan), 3)]
        self.assertEqual(len(steps), plan[0])
        self.assertEqual(last(*calls, *steps, can(3, 4)), [0])
        self.assertEqual(last(*calls, *steps[:-1], can(3, 4)), [1] + plan[-3:])

    def test_it_is_asked_of_what_is_had_now(self):
        calls = [set_(1, 1), give(1, 2), give(1, 3, [2])]
        self.assertEqual(last(*calls, do(0, 1, 2), can(2, 3)), [1, 1, 1, 2])
        self.assertEqual(last(*calls, set_(1), can(2, 3)), [-3])


if __name__ == "__main__":
    unittest.main()
