import unittest

from tests.lines import BIG, ask, can, do, give, give_n, held, last, set_, strike, take

SIX = [take(1, 1)] * 6


class GiveTest(unittest.TestCase):
    def test_numbers_in_their_order(self):
        told = ask(give(1, 2), take(1, 2), give(4, 4, [1], [4]), take(4, 4))
        self.assertEqual(told, [[0], [1], [2], [3]])

    def test_gives_to_whom_has_it_not(self):
        calls = [set_(1, 1), give(1, 2)]
        self.assertEqual(last(*calls, do(0, 1, 3)), [1, 2])
        self.assertEqual(last(*calls, set_(3, 2), do(0, 1, 3)), [-6])

    def test_just_who_has_a_may_give(self):
        self.assertEqual(last(set_(1, 2, 3, 4), set_(2, 1), give(1, 2), do(0, 1, 3)), [-6])
        self.assertEqual(last(set_(2, 1), give(1, 2), do(0, 2, 3)), [1, 2])

    def test_all_needed_roles(self):
        calls = [set_(1, 1), give(1, 4, [2, 3])]
        self.assertEqual(last(*calls, set_(2, 2), do(0, 1, 2)), [-6])
        self.assertEqual(last(*calls, set_(2, 3), do(0, 1, 2)), [-6])
        self.assertEqual(last(*calls, set_(2, 2, 3), do(0, 1, 2)), [3, 2, 3, 4])

    def test_none_of_those_that_must_not_be_had(self):
        calls = [set_(1, 1), give(1, 4, [], [2, 3])]
        self.assertEqual(last(*calls, set_(2, 2), do(0, 1, 2)), [-6])
        self.assertEqual(last(*calls, set_(2, 3), do(0, 1, 2)), [-6])
        self.assertEqual(last(*calls, set_(2, 1), do(0, 1, 2)), [2, 1, 4])

    def test_the_first_n_are_needed_and_the_others_must_not_be_had(self):
        for n, has, fits in ((0, [2], False), (0, [], True), (1, [2], True), (1, [2, 3], False),
                             (2, [2], False), (2, [2, 3], True)):
            found = last(set_(1, 1), give_n(1, 4, n, 2, 3), set_(2, *has), do(0, 1, 2))
            self.assertEqual(found, [len(has) + 1, *has, 4] if fits else [-6], (n, has))

    def test_needed_and_barred_are_asked_of_whom_alone(self):
        calls = [set_(1, 1, 3), set_(2, 2), give(1, 4, [2], [3]), do(0, 1, 2)]
        self.assertEqual(last(*calls), [2, 2, 4])

    def test_rows_rise_each_by_itself(self):
        self.assertEqual(last(give(1, 2, [1, 3], [1, 2])), [0])
        self.assertEqual(last(give(1, 2, [4], [1])), [0])
        self.assertEqual(last(give_n(1, 2, 1, 4, 1)), [0])
        self.assertEqual(last(give(1, 2, [1, 2, 3, 4], [1, 2, 3, 4])), [0])

    def test_a_role_in_both_rows_is_no_fault_but_nobody_fits(self):
        calls = [set_(1, 1), give(1, 4, [2], [2])]
        self.assertEqual(ask(*calls), [[0], [0]])
        self.assertEqual(last(*calls, set_(2, 2), do(0, 1, 2)), [-6])
        self.assertEqual(last(*calls, set_(2), do(0, 1, 2)), [-6])

    def test_role_may_be_its_own_a_and_stand_in_its_rows(self):
        self.assertEqual(last(set_(1, 1), give(1, 1), do(0, 1, 2)), [1, 1])
        self.assertEqual(last(set_(1, 1), give(1, 2, [2]), do(0, 1, 2)), [-6])
        self.assertEqual(last(set_(1, 1), give(1, 2, [], [2]), do(0, 1, 2)), [1, 2])

    def test_n_as_long_as_the_roles_and_beyond(self):
        self.assertEqual(last(give_n(1, 2, 0)), [0])
        self.assertEqual(last(give_n(1, 2, 2, 3, 4)), [0])
        for call in (give_n(1, 2, 1), give_n(1, 2, 3, 3, 4), give_n(1, 2, BIG, 3, 4), give_n(1, 2, BIG)):
            self.refused(call)

    def refused(self, call):
        self.assertEqual(last(call), [-1], call)
        # The rule that comes behind has the number that this one would have had.
        self.assertEqual(ask(set_(1, 1), call, give(1, 3), do(0, 1, 2))[1:], [[-1], [0], [1, 3]], call)
        self.assertEqual(last(*SIX, call), [-1], call)

    def test_no_such_a_or_r(self):
        for wrong in (0, 5, BIG):
            self.refused(give(wrong, 1))
            self.refused(give(1, wrong))
            self.refused(give(wrong, wrong))
        for a, r in ((1, 4), (4, 1)):
            self.assertEqual(last(give(a, r)), [0])

    def test_rows_with_no_such_role(self):
        for row in ([0], [5], [0, 1], [4, 5], [BIG]):
            self.refused(give(1, 2, row, []))
            self.refused(give(1, 2, [], row))
            self.refused(give(1, 2, [1], row))
            self.refused(give(1, 2, row, [1]))

    def test_rows_that_do_not_rise(self):
        for row in ([1, 1], [2, 1], [1, 3, 2], [4, 3]):
            self.refused(give(1, 2, row, []))
            self.refused(give(1, 2, [], row))
            self.refused(give(1, 2, [1, 2], row))
            self.refused(give(1, 2, row, [1, 2]))

    def test_six_rules_and_a_seventh(self):
        six = [give(1, r) for r in (2, 3, 4, 2, 3, 4)]
        self.assertEqual(ask(*six, give(1, 2), take(1, 2)), [[0], [1], [2], [3], [4], [5], [-5], [-5]])
        self.assertEqual(last(*six, give(1, 1), do(6, 1, 1)), [-2])
        self.assertEqual(ask(*six, give(1, 1), strike(0), give(1, 1))[-3:], [[-5], [5], [5]])

    def test_rules_do_not_change_what_is_had(self):
        self.assertEqual(held(set_(1, 1), give(1, 2), take(1, 1)), [[1], [], []])


class TakeTest(unittest.TestCase):
    def test_takes_from_whom_has_it(self):
        calls = [set_(1, 1), set_(2, 1, 2, 3), take(1, 2)]
        self.assertEqual(last(*calls), [0])
        self.assertEqual(last(*calls, do(0, 1, 2)), [2, 1, 3])
        self.assertEqual(held(*calls, do(0, 1, 2)), [[1], [1, 3], []])
        self.assertEqual(last(*calls, do(0, 1, 2), do(0, 1, 2)), [-6])

    def test_just_who_has_a_may_take(self):
        self.assertEqual(last(set_(1, 2), set_(2, 2), take(1, 2), do(0, 1, 2)), [-6])

    def test_from_oneself(self):
        self.assertEqual(last(set_(1, 1), take(1, 1), do(0, 1, 1)), [0])

    def test_no_such_a_or_r(self):
        for wrong in (0, 5, BIG):
            for call in (take(wrong, 1), take(1, wrong), take(wrong, wrong)):
                self.assertEqual(ask(call, take(4, 4)), [[-1], [0]], call)
                self.assertEqual(last(*SIX, call), [-1], call)

    def test_six_rules_and_a_seventh(self):
        self.assertEqual(ask(*SIX, take(1, 1)), [[0], [1], [2], [3], [4], [5], [-5]])
        self.assertEqual(ask(*SIX, take(1, 1), strike(5))[-2:], [[-5], [5]])


class StrikeTest(unittest.TestCase):
    RULES = [set_(1, 1), give(1, 2), give(1, 3), give(1, 4)]

    def given_by(self, *calls):
        """What the rules 0, 1 and 2 give user 2, behind these calls."""
        return [last(*self.RULES, *calls, do(k, 1, 2)) for k in (0, 1, 2)]

    def test_the_first(self):
        self.assertEqual(last(*self.RULES, strike(0)), [2])
        self.assertEqual(self.given_by(strike(0)), [[1, 3], [1, 4], [-2]])

    def test_one_between(self):
        self.assertEqual(last(*self.RULES, strike(1)), [2])
        self.assertEqual(self.given_by(strike(1)), [[1, 2], [1, 4], [-2]])

    def test_the_last(self):
        self.assertEqual(last(*self.RULES, strike(2)), [2])
        self.assertEqual(self.given_by(strike(2)), [[1, 2], [1, 3], [-2]])

    def test_all_of_them(self):
        self.assertEqual(ask(*self.RULES, strike(0), strike(1), strike(0), strike(0))[4:], [[2], [1], [0], [-2]])

    def test_no_such_rule(self):
        self.assertEqual(ask(strike(0), strike(1), strike(BIG)), [[-2], [-2], [-2]])
        for k in (3, 4, BIG):
            self.assertEqual(last(*self.RULES, strike(k)), [-2])
            self.assertEqual(self.given_by(strike(k)), [[1, 2], [1, 3], [1, 4]])

    def test_a_new_rule_comes_behind_those_that_stay(self):
        found = ask(*self.RULES, strike(0), give(1, 1), do(2, 1, 2), do(0, 1, 2))
        self.assertEqual(found[4:], [[2], [2], [1, 1], [2, 1, 3]])

    def test_plans_tell_the_numbers_that_rules_have_then(self):
        self.assertEqual(last(*self.RULES, can(2, 4)), [1, 2, 1, 2])
        self.assertEqual(last(*self.RULES, strike(0), can(2, 4)), [1, 1, 1, 2])
        self.assertEqual(last(*self.RULES, strike(2), can(2, 4)), [-3])

    def test_what_is_had_stays(self):
        self.assertEqual(held(*self.RULES, do(0, 1, 2), strike(0)), [[1], [2], []])


if __name__ == "__main__":
    unittest.main()
