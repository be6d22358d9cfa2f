"""Kinds: how they are made, what is refused, and in which order."""

import unittest
from itertools import permutations, product

from examples import assert_raises, run_examples
from gapsame import kinds
from gapsame.errors import BadKind, Misfit
from gapsame.kinds import Kind, steps_of

EXAMPLES = """
>>> lord, runner = Kind("chief", [(0, 1), (1, 1), [1, 0], (1, -1), (0, -1), (-1, -1), (-1, 0), (-1, 1)], (), True), Kind("runner", [], ["up", "left", "right", "down"])
>>> [lord.leaps[:3], runner.rides, steps_of(runner), str(runner), str(Kind("hopper", [(2, 1), (-1, 2)]))]
[((-1, -1), (-1, 0), (-1, 1)), ('right', 'left', 'up', 'down'), ((1, 0), (-1, 0), (0, 1), (0, -1)), 'runner rides right left up down', 'hopper leaps -1 2 , 2 1']
>>> [Kind.read("hopper leaps -1 2 , 2 1") == Kind("hopper", [(-1, 2), (2, 1)]), Kind.read(str(lord)) == lord, Kind.read("both leaps 1 0 rides up").rides]
[True, True, ('up',)]
>>> Kind("runner", [], ["up"], True)
raises Misfit('rides')
>>> Kind.read("hopper leaps 2 1 , -1 2")
raises BadText(0, 5)
>>> Kind.read("chief lord rides up")
raises BadText(0, 2)
>>> Kind.read("runner")
raises BadText(0, 1)
"""
RIDES = ("right", "left", "up", "down")
STEPS = {"right": (1, 0), "left": (-1, 0), "up": (0, 1), "down": (0, -1)}
ALL_LEAPS = tuple([leap for leap in product(range(-3, 4), repeat=2) if leap != (0, 0)])
NO_LISTS = (None, True, False, 0, 1, "", "up", "right", b"", {}, {"up": 1}, {(0, 1): 1}, {"up"}, {(0, 1)}, 1.5, object(),
            range(2), iter([(0, 1)]))
BAD_NAMES = ("", "abcdefghi", "lord", "leaps", "rides", "stone", "Runner", "a1", "a b", "\u00e4", None, True, 1, b"a",
             ["a"], ("a",))
BAD_LEAPS = (*NO_LISTS, [(0, 0)], [[0, 0]], [(4, 0)], [(0, 4)], [(-4, 0)], [(0, -4)], [(10 ** 40, 1)], [(True, 0)],
             [(0, True)], [(False, 1)], [(1, False)], [(1,)], [(1, 1, 1)], [()], [1], [1, 0], (0, 1), ["01"], ["up"],
             [None], [(1, None)], [(1.0, 0)], [("1", 0)], [{1: 0, 0: 1}], [{0, 1}], [(0, 1), (0, 1)], [(0, 1), [0, 1]],
             [[1, 0], (0, 1), (1, 0)], [(0, 1), (0, 0)], [((0, 1),)], [(0, 1), None], [[[0, 1], [1, 0]]])
BAD_RIDES = (*NO_LISTS, ["up", "up"], ("left", "right", "left"), ["Up"], ["up "], [""], ["upp"], ["r"], [1], [None],
             [True], [b"up"], [["up"]], [("up",)], ["up", None], ["up", []], [(0, 1)], ["high"], [{"up": 1}], [0, 1])
BAD_TRUTHS = (None, 0, 1, "", "True", (), [], [True], 1.0, "lord", object())


class Made(unittest.TestCase):
    def test_examples(self):
        run_examples(self, EXAMPLES, dict(vars(kinds)))

    def assert_kind(self, kind, name, leaps, rides, is_lord):
        self.assertEqual((kind.name, kind.leaps, kind.rides), (name, leaps, rides))
        self.assertIs(kind.is_lord, is_lord)
        self.assertIsInstance(kind.leaps, tuple)
        self.assertIsInstance(kind.rides, tuple)
        for leap in kind.leaps:
            self.assertIsInstance(leap, tuple)

    def test_by_place(self):
        self.assert_kind(Kind("a", [(0, 1)]), "a", ((0, 1),), (), False)
        self.assert_kind(Kind("a", ([1, 2], (0, 1)), ["up"]), "a", ((0, 1), (1, 2)), ("up",), False)
        self.assert_kind(Kind("abcdefgh", (), ("down",), False), "abcdefgh", (), ("down",), False)
        self.assert_kind(Kind("a", [[0, 1]], [], True), "a", ((0, 1),), (), True)

    def test_by_name(self):
        self.assert_kind(Kind(name="a", leaps=[(0, 1)]), "a", ((0, 1),), (), False)
        self.assert_kind(Kind(is_lord=True, leaps=[(0, 1)], name="a"), "a", ((0, 1),), (), True)
        self.assert_kind(Kind("a", rides=("up",), leaps=[]), "a", (), ("up",), False)
        self.assert_kind(Kind("a", [(0, 1)], is_lord=True), "a", ((0, 1),), (), True)

    def test_leaps_in_any_order(self):
        wanted = ((-3, 3), (-1, 2), (0, -3), (0, 1), (3, -3))
        for leaps in permutations(wanted):
            self.assertEqual(Kind("a", list(leaps)).leaps, wanted)
            self.assertEqual(Kind("a", [list(leap) for leap in leaps]).leaps, wanted)

    def test_each_leap(self):
        for leap in ALL_LEAPS:
            self.assertEqual(Kind("a", [leap]).leaps, (leap,))
        self.assertEqual(Kind("a", ALL_LEAPS[::-1]).leaps, tuple(sorted(ALL_LEAPS)))
        self.assertEqual(len(ALL_LEAPS), 48)

    def test_rides_in_any_order(self):
        for many in range(1, 5):
            for rides in permutations(RIDES, many):
                wanted = tuple([ride for ride in RIDES if ride in rides])
                for passed in (rides, list(rides)):
                    kind = Kind("a", [], passed)
                    self.assertEqual(kind.rides, wanted)
                    self.assertEqual(steps_of(kind), tuple([STEPS[ride] for ride in wanted]))

    def test_changed_afterwards(self):
        leap, rides = [0, 1], ["up"]
        leaps = [leap]
        kind = Kind("a", leaps, rides)
        leap[1] = 3
        leaps.append((1, 1))
        rides.append("down")
        self.assert_kind(kind, "a", ((0, 1),), ("up",), False)
        self.assertEqual(str(kind), "a leaps 0 1 rides up")

    def test_what_is_passed_does_not_change(self):
        leaps, rides = [[2, 1], (0, 1)], ["up", "right"]
        Kind("a", leaps, rides)
        self.assertEqual((leaps, rides), ([[2, 1], (0, 1)], ["up", "right"]))


class Refused(unittest.TestCase):
    def test_names(self):
        for name in BAD_NAMES:
            with self.subTest(name=name):
                assert_raises(self, BadKind("name"), Kind, name, [(0, 1)])

    def test_leaps(self):
        for leaps in BAD_LEAPS:
            with self.subTest(leaps=leaps):
                assert_raises(self, BadKind("leaps"), Kind, "a", leaps, ["up"])

    def test_rides(self):
        for rides in BAD_RIDES:
            with self.subTest(rides=rides):
                assert_raises(self, BadKind("rides"), Kind, "a", [(0, 1)], rides)

    def test_is_lord(self):
        for truth in BAD_TRUTHS:
            with self.subTest(is_lord=truth):
                assert_raises(self, BadKind("is_lord"), Kind, "a", [(0, 1)], (), truth)

    def test_lords_without_rides(self):
        for leaps in ([], [(0, 1)]):
            for rides in (["up"], RIDES):
                assert_raises(self, Misfit("rides"), Kind, "a", leaps, rides, True)

    def test_neither_leaps_nor_rides(self):
        for is_lord in (True, False):
            assert_raises(self, Misfit("leaps"), Kind, "a", [], (), is_lord)
            assert_raises(self, Misfit("leaps"), Kind, name="a", leaps=(), is_lord=is_lord)

    def test_which_is_due_first(self):
        due = (BadKind("name"), BadKind("leaps"), BadKind("rides"), BadKind("is_lord"))
        wrong, right = ("A", [(0, 0)], ["u"], 1), ("a", [], ["up"], True)
        for bent in product((True, False), repeat=4):
            values = [bad if is_bent else good for bad, good, is_bent in zip(wrong, right, bent)]
            error = due[bent.index(True)] if any(bent) else Misfit("rides")
            with self.subTest(bent=bent):
                assert_raises(self, error, Kind, *values)

    def test_each_parameter_wholly(self):
        assert_raises(self, BadKind("leaps"), Kind, "a", [(0, 1), (0, 1)], ["u"])
        assert_raises(self, BadKind("rides"), Kind, "a", [], ["up", "up"], 0)
        assert_raises(self, BadKind("is_lord"), Kind, "a", [], [], 0)

    def test_steps_of(self):
        for value in (None, "a", "runner rides up", Kind, ("up",), ["up"], True, 0, object()):
            assert_raises(self, BadKind("kind"), steps_of, value)
        self.assertEqual(steps_of(Kind("a", [(0, 1)])), ())
        self.assertEqual(steps_of(kind=Kind("a", [], ["down", "left"])), ((-1, 0), (0, -1)))


class Equal(unittest.TestCase):
    def test_equal(self):
        one = Kind("a", [(0, 1), (1, 0)], ["up", "left"])
        for other in (Kind("a", [[1, 0], [0, 1]], ("left", "up")), Kind("a", one.leaps, one.rides, False), one):
            self.assertIs(one == other, True)
            self.assertIs(one != other, False)

    def test_unlike(self):
        one = Kind("a", [(0, 1)])
        for other in (Kind("b", [(0, 1)]), Kind("a", [(1, 0)]), Kind("a", [(0, 1)], ["up"]), Kind("a", [], ["up"]),
                      Kind("a", [(0, 1)], (), True), Kind("a", [(0, 1), (1, 0)])):
            self.assertIs(one == other, False)
            self.assertIs(other == one, False)
            self.assertIs(one != other, True)

    def test_other_values(self):
        one = Kind("a", [(0, 1)])
        for other in (None, "a", str(one), ("a", ((0, 1),), (), False), True, 1, object(), Kind):
            self.assertIs(one == other, False)
            self.assertIs(other == one, False)


if __name__ == "__main__":
    unittest.main()
