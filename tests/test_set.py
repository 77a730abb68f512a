import unittest

from tests.lines import BIG, ask, held, last, set_


class SetTest(unittest.TestCase):
    def test_at_the_beginning_nobody_has_a_role(self):
        self.assertEqual(held(), [[], [], []])

    def test_each_user_has_just_these_roles(self):
        calls = [set_(1, 1, 4), set_(2, 2), set_(3, 1, 2, 3, 4)]
        self.assertEqual(ask(*calls), [[0], [0], [0]])
        self.assertEqual(held(*calls), [[1, 4], [2], [1, 2, 3, 4]])

    def test_what_was_had_before_goes(self):
        self.assertEqual(held(set_(2, 1, 2), set_(1, 4), set_(2, 2, 3)), [[4], [2, 3], []])

    def test_no_roles(self):
        calls = [set_(1, 1), set_(2, 1, 2, 3, 4), set_(3, 4), set_(2)]
        self.assertEqual(last(*calls), [0])
        self.assertEqual(held(*calls), [[1], [], [4]])

    def refused(self, call):
        before = [set_(1, 1), set_(2, 2, 3), set_(3, 4)]
        self.assertEqual(last(*before, call), [-1], call)
        self.assertEqual(held(*before, call), [[1], [2, 3], [4]], call)

    def test_no_such_user(self):
        for v in (0, 4, 5, BIG):
            self.refused(set_(v, 1))
            self.refused(set_(v))

    def test_no_such_role(self):
        for row in ([0], [5], [0, 1], [4, 5], [1, 2, 3, 4, 5], [BIG], [1, BIG]):
            self.refused(set_(1, *row))

    def test_roles_that_do_not_rise(self):
        for row in ([1, 1], [2, 1], [1, 3, 2], [4, 4], [1, 2, 3, 3], [1] * 20):
            self.refused(set_(3, *row))

    def test_wrong_user_and_wrong_roles(self):
        self.refused(set_(0, 2, 1))
        self.refused(set_(4, 5))


if __name__ == "__main__":
    unittest.main()
