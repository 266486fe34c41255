"""Lives [4]."""

import unittest

from kit import STRANGE, TOP, Case
from soundtill.errors import BadMoment, BadName, NoLife, NoTool
from soundtill.lives import Lives


class Made(Case):
    def test_no_tools(self):
        lives = Lives({})
        self.assertEqual((lives.tools, lives.listed, len(lives), bool(lives)), ((), (), 0, False))

    def test_tools_without_beginnings(self):
        lives = Lives({"b": [], "a": ()})
        self.assertEqual((lives.tools, lives.listed), (("a", "b"), (("a", 0), ("b", 0))))
        self.assertEqual((len(lives), bool(lives)), (2, True))
        self.assertEqual(lives.last_of(("a", 0)), TOP)

    def test_beginnings_in_any_order(self):
        for begun in ([9, 7, 9, 8, 1, TOP], (TOP, TOP, 8, 1, 9, 7, 1), [1, 7, 8, 9, TOP]):
            lives = Lives({"a": begun})
            self.assertEqual(lives.beginnings("a"), (0, 1, 7, 8, 9, TOP))
            self.assertEqual([lives.last_of(life) for life in lives.listed], [0, 6, 7, 8, TOP - 1, TOP])
            self.assertEqual(len(lives), 6)

    def test_listed_is_ascending(self):
        lives = Lives(begun={"b": [10, 9], "a": [7], "a1": (3,)})
        self.assertEqual(lives.listed, (("a", 0), ("a", 7), ("a1", 0), ("a1", 3), ("b", 0), ("b", 9), ("b", 10)))
        for told in (lives.tools, lives.listed, lives.beginnings("a"), lives.listed[0]):
            self.assertIs(type(told), tuple)

    def test_arguments_stay_and_may_change(self):
        moments, begun = [9, 7], {"b": []}
        begun["a"] = moments
        lives = Lives(begun)
        self.assertEqual((begun, list(begun), moments), ({"b": [], "a": [9, 7]}, ["b", "a"], [9, 7]))
        moments.append(1)
        begun["c"] = []
        del begun["b"]
        self.assertEqual((lives.tools, lives.beginnings("a")), (("a", "b"), (0, 7, 9)))

    def test_refused(self):
        self.refused(lambda: Lives({"b": [0], "A": [0]}), BadName, "A")
        self.refused(lambda: Lives({"b": [0], "c": [-1]}), BadMoment, 0)
        self.refused(lambda: Lives({"c": [-1], "b": [5, 0, -1]}), BadMoment, 0)
        self.refused(lambda: Lives({"sound": [0]}), BadName, "sound")
        self.refused(lambda: Lives({"": [], "A": []}), BadName, "")
        self.refused(lambda: Lives({"a": [3], "b": [4], "c c": []}), BadName, "c c")
        self.refused(lambda: Lives({"z": [], "b": [-1], "c c": []}), BadMoment, -1)
        self.refused(lambda: Lives({"a": [TOP, TOP + 1, 0]}), BadMoment, TOP + 1)

    def test_refused_beginnings_of_any_kind(self):
        for value in [None, True, False, 0, "1", *STRANGE]:
            self.refused(lambda: Lives({"a": [3, value, 0]}), BadMoment, value)
            self.refused(lambda: Lives({"a": (value,)}), BadMoment, value)
        value = [1]
        try:
            Lives({"a": [value]})
        except BadMoment as error:
            self.assertIs(error.moment, value)


class Asked(Case):
    def setUp(self):
        self.lives = Lives({"b": [], "a": [9, 7, 9]})

    def test_beginnings(self):
        self.assertEqual(self.lives.beginnings(tool="b"), (0,))
        for value in [None, True, 0, "c", *STRANGE]:
            self.refused(lambda: self.lives.beginnings(value), NoTool, value)

    def test_life_of(self):
        for moment, beginning in ((0, 0), (6, 0), (7, 7), (8, 7), (9, 9), (10, 9), (TOP, 9)):
            self.assertEqual(self.lives.life_of("a", moment), ("a", beginning))
        self.assertEqual(self.lives.life_of(moment=TOP, tool="b"), ("b", 0))
        self.assertEqual(Lives({"a": [1, TOP]}).life_of("a", 0), ("a", 0))
        self.assertEqual(Lives({"a": [1, TOP]}).life_of("a", TOP), ("a", TOP))

    def test_life_of_refused(self):
        for value in [None, True, 0, "c", *STRANGE]:
            self.refused(lambda: self.lives.life_of(value, 0), NoTool, value)
            self.refused(lambda: self.lives.life_of(value, value), NoTool, value)
        for value in [None, True, False, "0", *STRANGE]:
            self.refused(lambda: self.lives.life_of("a", value), BadMoment, value)

    def test_last_of(self):
        lasts = [self.lives.last_of(life) for life in self.lives.listed]
        self.assertEqual(lasts, [6, 8, TOP, TOP])
        self.assertEqual(self.lives.last_of(life=("a", 7)), 8)

    def test_no_life(self):
        nearly = [("a", 8), ("a", False), ("a", True), ["a", 0], ("a",), ("a", 0, 0), ("c", 0), ("b", 7), ("a", "0"), ("a", None),
                  (["a"], 0), ("a", [0]), (("a", 0), 0), "a", "a0"]
        strange = [value for value in STRANGE if not isinstance(value, tuple) or value != ("a", 0)]
        for value in nearly + [None, True, 0, *strange]:
            self.assertIs(value in self.lives, value == ("a", 0) and value[1] is not False)
            self.refused(lambda: self.lives.last_of(value), NoLife, value)

    def test_in(self):
        for life in self.lives.listed:
            self.assertIs(life in self.lives, True)
        self.assertIs(("a", False) in self.lives, False)
        self.assertIs(("a", True) in Lives({"a": [1]}), False)
        self.assertIs(("a", 1) in Lives({"a": [1]}), True)

    def test_equal(self):
        self.same(self.lives, Lives({"a": (7, 9), "b": ()}))
        for other in ({"a": [7, 9]}, {"a": [7, 9], "b": [1]}, {"a": [7], "b": []}, {"a": [7, 9], "c": []}, {}):
            self.unlike(self.lives, Lives(other))
        for other in [None, True, 4, {"a": (0, 7, 9), "b": (0,)}, self.lives.listed,
                      *[value for value in STRANGE if not isinstance(value, Lives)]]:
            self.unlike(self.lives, other)

    def test_same_answers_again(self):
        for _ in range(2):
            self.assertEqual(self.lives.listed, (("a", 0), ("a", 7), ("a", 9), ("b", 0)))
            self.assertEqual(len(self.lives), 4)


if __name__ == "__main__":
    unittest.main()
