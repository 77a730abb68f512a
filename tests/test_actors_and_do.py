import unittest

from tests.lines import BIG, actors, ask, can, do, give, held, last, set_, take


class ActorsTest(unittest.TestCase):
    HOUSE = [set_(1, 1), set_(2, 1), set_(3, 1), give(1, 2)]

    def doer(self, *calls):
        """Who does the one step that gives user 3 the role 2."""
        found = last(*self.HOUSE, *calls, can(3, 2))
        return found if found == [-3] else found[2]

    def test_all_at_first(self):
        for v in (1, 2, 3):
            self.assertEqual(last(set_(v, 1), give(1, 2), can(v, 2)), [1, 0, v, v])

    def test_just_these(self):
        for users, first in (([1], 1), ([2], 2), ([3], 3), ([2, 3], 2), ([1, 3], 1), ([1, 2, 3], 1)):
            self.assertEqual(last(*self.HOUSE, actors(*users)), [0])
            self.assertEqual(self.doer(actors(*users)), first)

    def test_none_at_all(self):
        self.assertEqual(last(*self.HOUSE, actors()), [0])
        self.assertEqual(self.doer(actors()), [-3])

    def test_the_latest_are_the_actors(self):
        self.assertEqual(self.doer(actors(), actors(2)), 2)
        self.assertEqual(self.doer(actors(1, 2, 3), actors(3)), 3)
        self.assertEqual(self.doer(actors(3), actors(1, 2, 3)), 1)

    def test_refused(self):
        for users in ([0], [4], [BIG], [0, 1], [3, 4], [1, 2, 3, 4], [1, 1], [2, 1], [1, 3, 2], [3, 3], [1] * 10):
            self.assertEqual(last(*self.HOUSE, actors(*users)), [-1], users)
            self.assertEqual(self.doer(actors(*users)), 1, users)
            self.assertEqual(self.doer(actors(2, 3), actors(*users)), 2, users)


class DoTest(unittest.TestCase):
    def test_gives_and_tells_the_roles_rising(self):
        calls = [set_(1, 1), set_(2, 1, 4), give(1, 2), do(0, 1, 2)]
        self.assertEqual(last(*calls), [3, 1, 2, 4])
        self.assertEqual(held(*calls), [[1], [1, 2, 4], []])

    def test_tells_no_roles(self):
        self.assertEqual(last(set_(1, 1), set_(2, 3), take(1, 3), do(0, 1, 2)), [0])

    def test_tells_all_roles(self):
        self.assertEqual(last(set_(1, 1), set_(3, 1, 2, 4), give(1, 3), do(0, 1, 3)), [4, 1, 2, 3, 4])

    def test_to_oneself(self):
        self.assertEqual(last(set_(2, 1), give(1, 3), do(0, 2, 2)), [2, 1, 3])

    def test_by_who_is_no_actor(self):
        calls = [set_(1, 1), give(1, 2), take(1, 2)]
        self.assertEqual(ask(*calls, actors(), do(0, 1, 2))[-1], [1, 2])
        self.assertEqual(ask(*calls, actors(2, 3), do(0, 1, 2), do(1, 1, 2))[-2:], [[1, 2], [0]])

    def test_one_step_opens_another(self):
        calls = [set_(1, 1), give(1, 2), give(2, 3, [2])]
        self.assertEqual(ask(*calls, do(1, 2, 2), do(0, 1, 2), do(1, 2, 2))[3:], [[-6], [1, 2], [2, 2, 3]])

    def refused(self, why, call):
        calls = [set_(1, 1), set_(2, 2), give(1, 2), take(2, 1), call]
        self.assertEqual(last(*calls), [why], call)
        self.assertEqual(held(*calls), [[1], [2], []], call)
        self.assertEqual(last(*calls, do(0, 1, 3)), [1, 2], call)

    def test_no_such_user(self):
        for wrong in (0, 4, BIG):
            self.refused(-1, do(0, wrong, 1))
            self.refused(-1, do(0, 1, wrong))
            self.refused(-1, do(0, wrong, wrong))

    def test_no_such_rule(self):
        for k in (2, 3, BIG):
            self.refused(-2, do(k, 1, 3))
        self.assertEqual(last(do(0, 1, 1)), [-2])

    def test_may_not_be_done(self):
        self.refused(-6, do(0, 2, 3))
        self.refused(-6, do(0, 1, 2))
        self.refused(-6, do(1, 1, 1))
        self.refused(-6, do(1, 2, 3))

    def test_of_several_the_first(self):
        self.refused(-1, do(2, 0, 1))
        self.refused(-1, do(BIG, 1, 4))
        self.refused(-1, do(0, 4, 2))
        self.refused(-2, do(2, 3, 3))


if __name__ == "__main__":
    unittest.main()
