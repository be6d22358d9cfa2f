"""What any value is: integers, bounds, squares, moves, names."""

import unittest

from examples import run_examples
from gapsame import checks
from gapsame.checks import is_integer, is_move, is_name, is_square, is_within

EXAMPLES = """
>>> [is_integer(True), is_within(3, None, 3), is_square([0, -10 ** 40]), is_square((1, 2, 3)), is_square((True, 0)), is_move([(0, 0), [0, 1]]), is_move(((0, 0),)), is_name("runner"), is_name("lord"), is_name("lords"), is_name("a1")]
[False, True, True, False, False, True, False, True, False, True, False]
"""
NO_INTEGERS = (True, False, None, "", "1", "a", b"", b"1", b"ab", 1.0, 0.5, 1j, (), (1,), (0, 0), [], [1], [0, 0],
               {}, {1: 2}, {0, 1}, object(), int, ((0, 0), (0, 1)), [[[]]])
INTEGERS = (0, 1, -1, 3, -3, 60, 10 ** 40, -10 ** 40, 10 ** 400)


class Checks(unittest.TestCase):
    def assert_tells(self, told, right, wrong):
        for value in right:
            with self.subTest(right=value):
                self.assertIs(told(value), True)
        for value in wrong:
            with self.subTest(wrong=value):
                self.assertIs(told(value), False)

    def test_examples(self):
        run_examples(self, EXAMPLES, dict(vars(checks)))

    def test_integers(self):
        self.assert_tells(is_integer, INTEGERS, NO_INTEGERS)

    def test_within_without_bounds(self):
        self.assert_tells(lambda value: is_within(value, None, None), INTEGERS, NO_INTEGERS)

    def test_no_integers_within_bounds(self):
        for least, most in ((None, 5), (-5, None), (-5, 5), (0, 1)):
            self.assert_tells(lambda value: is_within(value, least, most), (), NO_INTEGERS)

    def test_at_and_beside_bounds(self):
        for bound in (0, 1, -1, 3, 60, 10 ** 18, 2 ** 63, -2 ** 63, 10 ** 60, -10 ** 60):
            with self.subTest(bound=bound):
                self.assertEqual([is_within(value, bound, None) for value in (bound - 1, bound, bound + 1)],
                                 [False, True, True])
                self.assertEqual([is_within(value, None, bound) for value in (bound - 1, bound, bound + 1)],
                                 [True, True, False])
                self.assertEqual([is_within(value, bound, bound) for value in (bound - 1, bound, bound + 1)],
                                 [False, True, False])
                self.assertEqual([is_within(value, bound, bound + 2) for value in range(bound - 1, bound + 4)],
                                 [False, True, True, True, False])

    def test_bounds_the_wrong_way_round(self):
        self.assertEqual([is_within(value, 3, 1) for value in range(5)], [False] * 5)

    def test_by_name(self):
        self.assertIs(is_within(value=3, least=3, most=None), True)
        self.assertIs(is_within(most=2, value=3, least=None), False)
        self.assertIs(is_integer(value=7), True)
        self.assertIs(is_square(value=(0, 1)), True)
        self.assertIs(is_move(value=((0, 0), (0, 1))), True)
        self.assertIs(is_name(value="runner"), True)

    def test_squares(self):
        self.assert_tells(
            is_square,
            ((0, 0), [0, 0], (-1, 7), [10 ** 40, -10 ** 40]),
            (*[value for value in NO_INTEGERS if value not in ((0, 0), [0, 0])], *INTEGERS, (0, 0, 0), (0,), [1, 2, 3],
             (True, 0), (0, False), [0, None], ("0", 0), (0, "0"), (0, 1.0), ((0, 0), 0), ((0,), (0,)), [[0, 0]]))

    def test_moves(self):
        self.assert_tells(
            is_move,
            (((0, 0), (0, 1)), [[0, 0], [0, 1]], [(0, 0), [0, 1]], ([0, 0], (0, 1)), ((3, 3), (3, 3)),
             ((10 ** 40, 0), (0, -10 ** 40))),
            (*[value for value in NO_INTEGERS if value != ((0, 0), (0, 1))], *INTEGERS, ((0, 0),), [[0, 0]],
             ((0, 0), (0, 1), (0, 2)), ((0, 0), (0,)), ((0, 0, 0), (0, 0)), ((0, 0), (True, 1)), ((0, False), (0, 1)),
             ((0, 0), None), (None, (0, 0)), ((0, 0), "ab"), "abcd", {(0, 0): 1, (0, 1): 2}, (0, 0, 0, 1)))

    def test_names(self):
        self.assert_tells(
            is_name,
            ("a", "z", "az", "runner", "abcdefgh", "zzzzzzzz", "lords", "lor", "stones", "leap", "ride", "rides" + "x",
             "kind", "hold", "take", "reach", "left", "none", "columns", "true"),
            (*NO_INTEGERS[:2], None, 0, 1, 10 ** 40, "", "abcdefghi", "a" * 1000, "lord", "leaps", "rides", "stone",
             "A", "Runner", "runneR", "a1", "1", "1a", "a b", " a", "a ", "a\n", "\na", "a-b", "a_b", "a.", "{", "`",
             "@", "[", "\u00e4", "\u00df", "a\u00e9", "\u0430", "\uff41", "\x00", b"a", b"runner", ["a"], ("a",),
             ["r", "u"], {"a": 1}, {"a"}, object(), str))


if __name__ == "__main__":
    unittest.main()
