import unittest

from tests.lines import BIG, actors, ask, do, give, held, house_behind, last, lose, roles, set_, strike, take


class LoseTest(unittest.TestCase):
    def test_the_plan_without_steps(self):
        self.assertEqual(ask(lose(1, 1), lose(2, 2), lose(3, 3), lose(1, 4)), [[0]] * 4)
        self.assertEqual(last(set_(1, 1, 2, 4), set_(2, 3), take(1, 3), lose(1, 3)), [0])
        self.assertEqual(last(set_(2, 1), actors(), lose(2, 2)), [0])

    def test_one_step(self):
        self.assertEqual(last(set_(1, 1), set_(3, 4), take(1, 4), lose(3, 4)), [1, 0, 1, 3])
        self.assertEqual(last(set_(1, 1), set_(3, 1, 2, 3, 4), give(1, 2), take(1, 4), lose(3, 4)), [1, 1, 1, 3])

    def test_each_user_and_each_role(self):
        for v in (1, 2, 3):
            for r in (1, 2, 3, 4):
                self.assertEqual(last(set_(v, r), take(r, r), lose(v, r)), [1, 0, v, v], (v, r))

    def test_of_oneself(self):
        self.assertEqual(last(set_(2, 1), take(1, 1), lose(2, 1)), [1, 0, 2, 2])

    def test_one_user_helps_another(self):
        # Nobody may take 4 yet: 1 makes 2 one who may.
        calls = [set_(1, 1, 4), give(1, 2, [], [1]), take(2, 4)]
        self.assertEqual(last(*calls, lose(1, 4)), [2, 0, 1, 2, 1, 2, 1])

    def test_two_users_help_one_another(self):
        calls = [set_(1, 1), set_(2, 2), give(1, 3, [2]), give(3, 4, [1]), take(4, 2)]
        self.assertEqual(last(*calls, lose(2, 2)), [3, 0, 1, 2, 1, 2, 1, 2, 1, 2])

    def test_a_role_is_given_that_another_may_be_taken(self):
        calls = [set_(1, 1, 3), give(1, 2), take(2, 3)]
        self.assertEqual(last(*calls, lose(1, 3)), [2, 0, 1, 1, 1, 1, 1])

    def test_fewer_steps_come_before_lower_rules(self):
        calls = [set_(1, 1), set_(2, 4), give(1, 2), take(2, 4), take(1, 4)]
        self.assertEqual(last(*calls, lose(2, 4)), [1, 2, 1, 2])

    def test_first_differ_in_the_rule(self):
        calls = [set_(1, 2), set_(2, 1), set_(3, 4), take(1, 4), take(2, 4)]
        self.assertEqual(last(*calls, lose(3, 4)), [1, 0, 2, 3])
        calls = [set_(1, 1), set_(3, 4), give(1, 3, [], [1, 4]), give(1, 2, [], [1, 4]), take(2, 4), take(3, 4)]
        self.assertEqual(last(*calls, lose(3, 4)), [2, 0, 1, 2, 3, 2, 3])

    def test_first_differ_in_the_rule_at_a_later_step(self):
        calls = [set_(1, 1), set_(3, 4), give(1, 2), take(2, 4), take(2, 4)]
        self.assertEqual(last(*calls, lose(3, 4)), [2, 0, 1, 1, 1, 1, 3])

    def test_first_differ_in_who_does_it(self):
        calls = [set_(1, 1), set_(2, 1), set_(3, 1, 4), take(1, 4)]
        self.assertEqual(last(*calls, lose(3, 4)), [1, 0, 1, 3])
        self.assertEqual(last(*calls, actors(2, 3), lose(3, 4)), [1, 0, 2, 3])
        self.assertEqual(last(*calls, set_(1), lose(3, 4)), [1, 0, 2, 3])
        self.assertEqual(last(*calls, actors(3), lose(3, 4)), [1, 0, 3, 3])

    def test_first_differ_in_who_at_a_later_step(self):
        calls = [set_(2, 2), set_(3, 1, 4), give(1, 2, [], [2]), take(2, 4)]
        self.assertEqual(last(*calls, lose(3, 4)), [1, 1, 2, 3])
        self.assertEqual(last(*calls, actors(1, 3), lose(3, 4)), [2, 0, 3, 1, 1, 1, 3])

    def test_first_differ_in_whom_it_is_done_to(self):
        calls = [set_(1, 1, 4), give(1, 2, [], [1]), take(2, 4)]
        self.assertEqual(last(*calls, lose(1, 4)), [2, 0, 1, 2, 1, 2, 1])
        self.assertEqual(last(*calls, actors(1, 3), lose(1, 4)), [2, 0, 1, 3, 1, 3, 1])
        self.assertEqual(last(set_(3, 1, 4), give(1, 2), take(2, 4), lose(3, 4)), [2, 0, 3, 1, 1, 1, 3])

    def test_no_plan(self):
        self.assertEqual(last(set_(1, 1), lose(1, 1)), [-3])
        self.assertEqual(last(set_(1, 1), set_(2, 2), give(1, 2), take(3, 2), lose(2, 2)), [-3])
        self.assertEqual(last(set_(1, 1), set_(2, 2), take(1, 1), lose(2, 2)), [-3])
        self.assertEqual(last(set_(2, 1, 2, 3, 4), take(1, 2), strike(0), lose(2, 2)), [-3])

    def test_no_plan_as_those_who_could_are_no_actors(self):
        calls = [set_(1, 1), set_(2, 4), give(1, 2), take(2, 4)]
        self.assertEqual(last(*calls, lose(2, 4)), [2, 0, 1, 1, 1, 1, 2])
        self.assertEqual(last(*calls, actors(2, 3), lose(2, 4)), [-3])
        self.assertEqual(last(*calls, actors(), lose(2, 4)), [-3])
        self.assertEqual(last(*calls, actors(1), lose(2, 4)), [2, 0, 1, 1, 1, 1, 2])

    def test_no_actor_may_help_though_given_to(self):
        calls = [set_(1, 1, 4), give(1, 2, [], [1]), take(2, 4)]
        self.assertEqual(last(*calls, actors(1), lose(1, 4)), [-3])

    def test_refused(self):
        calls = [set_(1, 1, 4), set_(2, 4), give(1, 2), take(1, 4), actors(1, 3)]
        wrong = [lose(v, 4) for v in (0, 4, 5, BIG)] + [lose(1, r) for r in (0, 5, BIG)]
        wrong += [lose(0, 0), lose(4, 5), lose(BIG, BIG), lose(4, 1)]
        for call in wrong:
            self.assertEqual(ask(*calls, call, lose(2, 4))[5:], [[-1], [1, 1, 1, 2]], call)
            self.assertEqual(house_behind(*calls, call), house_behind(*calls), call)

    def test_edges_that_are_not_refused(self):
        for v in (1, 3):
            for r in (1, 4):
                self.assertEqual(last(set_(v, 1, 4), lose(v, r)), [-3])
                self.assertEqual(last(lose(v, r)), [0])

    def test_asking_does_not_do_it(self):
        calls = [set_(1, 1), set_(2, 4), give(1, 2), take(2, 4), actors(1, 2)]
        for call in (lose(2, 4), lose(1, 1), lose(3, 1)):
            self.assertEqual(house_behind(*calls, call), house_behind(*calls), call)
            self.assertEqual(held(*calls, call), [[1], [4], []], call)
            first, again = ask(*calls, call, call)[5:]
            self.assertEqual(first, again, call)

    def test_a_plan_can_be_done_and_then_has_no_steps(self):
        calls = [set_(1, 1, 4), give(1, 2, [], [1]), take(2, 4)]
        self.assertEqual(ask(*calls, do(0, 1, 2), lose(1, 4), do(1, 2, 1), lose(1, 4), roles(1))[3:],
                         [[1, 2], [1, 1, 2, 1], [1, 1], [0], [1, 1]])


if __name__ == "__main__":
    unittest.main()
