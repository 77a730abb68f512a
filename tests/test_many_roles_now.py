import unittest

from tests.lines import BIG, actors, ask, do, give, give_n, held, house_behind, last, many, now, roles, set_, strike, take


class ManyTest(unittest.TestCase):
    def test_no_rules(self):
        self.assertEqual(last(many()), [1])
        self.assertEqual(last(set_(1, 1), set_(2, 1, 2, 3, 4), many()), [1])

    def test_no_actors(self):
        calls = [set_(1, 1), give(1, 2), take(1, 2)]
        self.assertEqual(last(*calls, actors(), many()), [1])
        self.assertEqual(last(*calls, actors(2, 3), many()), [1])
        self.assertEqual(last(*calls, actors(1), many()), [8])

    def test_nobody_has_the_role_of_a_rule(self):
        self.assertEqual(last(give(1, 1), take(2, 2), many()), [1])

    def test_one_step_away(self):
        self.assertEqual(last(set_(1, 1), give(1, 2, [1]), many()), [2])

    def test_the_one_that_is_there_now_is_counted_once(self):
        # Each of the three users has 2 or not, and all can be as it was again.
        calls = [set_(1, 1), give(1, 2), take(1, 2)]
        self.assertEqual(last(*calls, many()), [8])
        self.assertEqual(last(*calls, do(0, 1, 2), many()), [8])
        self.assertEqual(last(*calls, set_(1), many()), [1])

    def test_the_order_of_steps_makes_no_difference(self):
        self.assertEqual(last(set_(1, 1), give(1, 2), give(1, 3), many()), [64])

    def test_what_is_behind_can_be_lost(self):
        self.assertEqual(last(set_(1, 1), set_(2, 2), take(1, 2), take(1, 1), many()), [4])
        self.assertEqual(last(set_(1, 1), set_(2, 1), set_(3, 1), take(1, 1), many()), [8])
        self.assertEqual(last(set_(1, 1, 2), take(1, 2), take(2, 1), many()), [3])

    def test_many_ways(self):
        gives = [give(1, r) for r in (1, 2, 3, 4)]
        self.assertEqual(last(set_(1, 1), *gives, many()), [2048])
        self.assertEqual(last(set_(1, 1), *gives, take(1, 1), take(1, 2), many()), [4096])

    def test_asking_does_not_do_it(self):
        calls = [set_(1, 1), set_(2, 4), give(1, 2), take(2, 4), actors(1, 2)]
        self.assertEqual(house_behind(*calls, many()), house_behind(*calls))
        self.assertEqual(held(*calls, many()), [[1], [4], []])
        first, again = ask(*calls, many(), many())[5:]
        self.assertEqual(first, again)


class RolesTest(unittest.TestCase):
    def test_none_some_and_all_four(self):
        calls = [set_(1), set_(2, 1, 4), set_(3, 1, 2, 3, 4)]
        self.assertEqual(ask(*calls, roles(1), roles(2), roles(3))[3:], [[0], [2, 1, 4], [4, 1, 2, 3, 4]])

    def test_at_the_beginning(self):
        self.assertEqual(ask(roles(1), roles(2), roles(3)), [[0], [0], [0]])

    def test_every_row_of_every_user(self):
        for v in (1, 2, 3):
            for bits in range(16):
                row = [r for r in (1, 2, 3, 4) if bits >> (r - 1) & 1]
                found = ask(set_(v, *row), roles(1), roles(2), roles(3))[1:]
                self.assertEqual(found, [[len(row), *row] if u == v else [0] for u in (1, 2, 3)])

    def test_behind_do(self):
        calls = [set_(1, 1), set_(2, 1, 4), give(1, 2), take(1, 1), do(0, 1, 2), roles(2), do(1, 1, 2), roles(2)]
        self.assertEqual(ask(*calls)[4:], [[3, 1, 2, 4], [3, 1, 2, 4], [2, 2, 4], [2, 2, 4]])

    def test_refused(self):
        calls = [set_(1, 1), set_(2, 2), set_(3, 3), give(1, 2), actors(2)]
        for v in (0, 4, 5, BIG):
            self.assertEqual(ask(*calls, roles(v), roles(1), roles(3))[5:], [[-1], [1, 1], [1, 3]], v)
            self.assertEqual(house_behind(*calls, roles(v)), house_behind(*calls), v)

    def test_asking_changes_nothing(self):
        calls = [set_(1, 1), set_(2, 2), give(1, 2), actors(2)]
        for v in (1, 2, 3):
            self.assertEqual(house_behind(*calls, roles(v)), house_behind(*calls), v)


class NowTest(unittest.TestCase):
    def test_no_rules(self):
        self.assertEqual(last(now()), [0])
        self.assertEqual(last(set_(1, 1), actors(1), now()), [0])

    def test_rules_to_give(self):
        self.assertEqual(last(give(1, 2), now()), [1, 1, 1, 2, 0, 0])
        self.assertEqual(last(give(3, 4, [1, 3]), now()), [1, 1, 3, 4, 2, 1, 3, 0])
        self.assertEqual(last(give(4, 1, [], [2, 4]), now()), [1, 1, 4, 1, 0, 2, 2, 4])
        self.assertEqual(last(give(2, 2, [1, 4], [1, 2, 3]), now()), [1, 1, 2, 2, 2, 1, 4, 3, 1, 2, 3])
        self.assertEqual(last(give(1, 1, [1, 2, 3, 4], [1, 2, 3, 4]), now()),
                         [1, 1, 1, 1, 4, 1, 2, 3, 4, 4, 1, 2, 3, 4])

    def test_rules_to_take(self):
        self.assertEqual(last(take(3, 4), now()), [1, 0, 3, 4, 0, 0])
        self.assertEqual(last(take(2, 2), take(4, 1), now()), [2, 0, 2, 2, 0, 0, 0, 4, 1, 0, 0])

    def test_in_their_order(self):
        calls = [give(1, 2, [3]), take(4, 3), give(2, 4, [], [1])]
        self.assertEqual(last(*calls, now()), [3, 1, 1, 2, 1, 3, 0, 0, 4, 3, 0, 0, 1, 2, 4, 0, 1, 1])

    def test_six_rules(self):
        calls = [take(1, 1), take(1, 2), take(1, 3), take(1, 4), take(2, 1), give(2, 2, [2], [2])]
        told = [6, 0, 1, 1, 0, 0, 0, 1, 2, 0, 0, 0, 1, 3, 0, 0, 0, 1, 4, 0, 0, 0, 2, 1, 0, 0, 1, 2, 2, 1, 2, 1, 2]
        self.assertEqual(last(*calls, now()), told)
        self.assertEqual(last(*calls, take(4, 4), give(4, 4), now()), told)

    def test_behind_strike(self):
        calls = [give(1, 2, [3]), take(4, 3), give(2, 4, [], [1])]
        self.assertEqual(last(*calls, strike(0), now()), [2, 0, 4, 3, 0, 0, 1, 2, 4, 0, 1, 1])
        self.assertEqual(last(*calls, strike(1), now()), [2, 1, 1, 2, 1, 3, 0, 1, 2, 4, 0, 1, 1])
        self.assertEqual(last(*calls, strike(2), now()), [2, 1, 1, 2, 1, 3, 0, 0, 4, 3, 0, 0])
        self.assertEqual(last(*calls, strike(3), now()), last(*calls, now()))
        self.assertEqual(last(*calls, strike(0), strike(0), strike(0), now()), [0])
        self.assertEqual(last(*calls, strike(1), take(1, 1), now()),
                         [3, 1, 1, 2, 1, 3, 0, 1, 2, 4, 0, 1, 1, 0, 1, 1, 0, 0])

    def test_what_was_refused_is_not_there(self):
        calls = [give(1, 2), give(0, 1), give_n(1, 1, 2, 3), give(1, 1, [2, 1]), take(5, 1), take(1, BIG)]
        self.assertEqual(last(*calls, now()), [1, 1, 1, 2, 0, 0])

    def test_asking_changes_nothing(self):
        calls = [set_(1, 1), set_(2, 2), give(1, 2, [1], [3]), take(1, 2), actors(2)]
        self.assertEqual(house_behind(*calls, now()), house_behind(*calls))


if __name__ == "__main__":
    unittest.main()
