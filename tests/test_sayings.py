"""Names, moments and sayings [2], [3]."""

import unittest

from kit import STRANGE, TOP, Case
from soundtill.errors import BadMoment, BadName, BadSaying, BadText
from soundtill.sayings import Saying

NO_NAMES = (
    "begun setby found trusted passed failed agreed differed served backed sound unsound "
    "sure never open none record lot menu wanted"
).split()


class Names(Case):
    def test_names(self):
        for name in ("a", "z", "a1", "abcdefgh", "z9999999", "std", "soundly", "self", "time", "today", "empty", "check"):
            self.assertEqual(Saying(name, 0, True).tool, name)

    def test_words_that_are_no_names(self):
        self.assertEqual(len(NO_NAMES), 20)
        for name in NO_NAMES:
            self.refused(lambda: Saying(name, 0, True), BadName, name)
            self.assertEqual(Saying(name[:-1] + "0", 0, True).tool, name[:-1] + "0")

    def test_texts_that_are_no_names(self):
        for name in ("", "abcdefghi", "1", "1a", "A", "aB", " ", "a ", " a", "a b", "a_b", "_", "a-", "a.", "a\n", "\n", "{a"):
            self.refused(lambda: Saying(name, 0, True), BadName, name)

    def test_other_values_are_no_names(self):
        for value in [None, True, False, 0, 1, *STRANGE]:
            self.refused(lambda: Saying(value, 0, True), BadName, value)


class Moments(Case):
    def test_bounds(self):
        for moment in (0, 1, TOP - 1, TOP):
            self.assertEqual(Saying("a", moment, True).moment, moment)
        for moment in (-1, TOP + 1, 10 ** 60 - 1, -(10 ** 60 - 1)):
            self.refused(lambda: Saying("a", moment, True), BadMoment, moment)

    def test_no_integers(self):
        for value in [None, True, False, "0", "a", *STRANGE]:
            self.refused(lambda: Saying("a", value, True), BadMoment, value)


class Sayings(Case):
    def test_attributes(self):
        saying = Saying("a", 3, True)
        self.assertEqual((saying.tool, saying.moment, saying.is_sound, saying.point), ("a", 3, True, ("a", 3)))
        self.assertEqual(list(vars(saying)), ["tool", "moment", "is_sound"])
        self.same(Saying(is_sound=False, moment=3, tool="a"), Saying("a", 3, False))
        self.assertIs(type(saying.point), tuple)

    def test_most(self):
        self.assertEqual(Saying.MOST, 10 ** 30)
        self.assertEqual(Saying("a", 0, True).MOST, 10 ** 30)

    def test_static_methods(self):
        self.same(Saying.sound("a", 3), Saying("a", 3, True))
        self.same(Saying.unsound(tool="a", moment=3), Saying("a", 3, False))
        self.assertIs(Saying.sound("a", 3).is_sound, True)
        self.assertIs(Saying.unsound("a", 3).is_sound, False)
        for made in (Saying.sound, Saying.unsound):
            self.refused(lambda: made("A", -1), BadName, "A")
            self.refused(lambda: made("a", True), BadMoment, True)

    def test_first_wrong_argument_alone(self):
        self.refused(lambda: Saying("sound", -1, 1), BadName, "sound")
        self.refused(lambda: Saying("a", -1, 1), BadMoment, -1)
        self.refused(lambda: Saying(["a"], 3, 1), BadName, ["a"])
        for value in [None, 0, 1, "sound", *STRANGE]:
            self.refused(lambda: Saying("a", 3, value), BadSaying, value)

    def test_error_has_the_value_itself(self):
        for at in range(3):
            value = [["a"]]
            arguments = ["a", 3, True]
            arguments[at] = value
            try:
                Saying(*arguments)
            except ValueError as error:
                self.assertIs(list(vars(error).values())[0], value)
                self.assertEqual(value, [["a"]])

    def test_contrary(self):
        for truth in (True, False):
            saying = Saying("a", 3, truth)
            self.same(~saying, Saying("a", 3, not truth))
            self.same(~~saying, saying)
            self.assertIs(saying.is_sound, truth)

    def test_equal(self):
        self.same(Saying("a", 3, True), Saying("a", 3, True))
        for other in (Saying("b", 3, True), Saying("a", 4, True), Saying("a", 3, False)):
            self.unlike(Saying("a", 3, True), other)
        for other in [None, True, 3, "a 3 sound", ("a", 3, True), *STRANGE]:
            self.unlike(Saying("a", 3, True), other)

    def test_order(self):
        ascending = [Saying(tool, moment, truth) for tool in ("a", "a0", "aa", "b")
                     for moment in (0, 9, 10, TOP) for truth in (False, True)]
        for at, one in enumerate(ascending):
            for k, other in enumerate(ascending):
                self.assertIs(one.is_ahead(other), at < k)
        self.assertIs(Saying("a", 3, True).is_ahead(other=Saying("a", 4, False)), True)

    def test_later(self):
        saying = Saying("a", 3, False)
        self.same(saying << 0, saying)
        self.same(saying << 4, Saying("a", 7, False))
        self.same(saying << TOP - 3, Saying("a", TOP, False))
        self.refused(lambda: saying << TOP - 2, BadMoment, TOP + 1)
        self.refused(lambda: Saying("a", TOP, True) << 10 ** 59, BadMoment, TOP + 10 ** 59)
        self.assertEqual(str(saying), "a 3 unsound")

    def test_renamed(self):
        saying, names = Saying("a", 3, False), {"a": "b", "b": "c"}
        self.same(saying.renamed(names), Saying("b", 3, False))
        self.same(saying.renamed({"c": "d"}), saying)
        self.same(saying.renamed(names={}), saying)
        self.assertEqual((str(saying), names), ("a 3 unsound", {"a": "b", "b": "c"}))


class Texts(Case):
    def test_read_again(self):
        for saying in (Saying("a", 0, True), Saying("abcdefg9", TOP, False), Saying("time", 10 ** 29, True)):
            self.same(Saying.read(str(saying)), saying)
            self.assertEqual(str(Saying.read(str(saying))), str(saying))
        self.assertEqual(str(Saying("a", TOP, False)), "a 1" + "0" * 30 + " unsound")
        self.same(Saying.read(text="a 3 sound"), Saying("a", 3, True))

    def test_wrong_words(self):
        for word in ("", "A", "sound", "abcdefghi", "1", "a\n", "\na", "a\nb"):
            self.refused(lambda: Saying.read(f"{word} 3 sound"), BadText, 0, 0)
        for word in ("", "a", "-1", "+3", "03", "00", "3\n", "\n3", "3_0", "3.0", "1" * 32, "1" + "0" * 31,
                     "1" + "0" * 29 + "1", "9" * 31, "0" * 31):
            expected = 1
            if word == "1" + "0" * 29 + "1":
                word = str(TOP + 1)
            self.refused(lambda: Saying.read(f"a {word} sound"), BadText, 0, expected)
        for word in ("", "true", "Sound", "sound\n", "unsound,", "3"):
            self.refused(lambda: Saying.read(f"a 3 {word}"), BadText, 0, 2)

    def test_first_wrong_word(self):
        self.refused(lambda: Saying.read("A 03 good more"), BadText, 0, 0)
        self.refused(lambda: Saying.read("a 03 good more"), BadText, 0, 1)
        self.refused(lambda: Saying.read("a 3 good more"), BadText, 0, 2)
        self.refused(lambda: Saying.read("A"), BadText, 0, 0)
        self.refused(lambda: Saying.read("a 03"), BadText, 0, 1)

    def test_words_missing_or_too_many(self):
        self.refused(lambda: Saying.read(""), BadText, 0, 0)
        self.refused(lambda: Saying.read("a"), BadText, 0, 1)
        self.refused(lambda: Saying.read("a 3"), BadText, 0, 2)
        self.refused(lambda: Saying.read("3 sound"), BadText, 0, 0)
        self.refused(lambda: Saying.read("a sound"), BadText, 0, 1)
        self.refused(lambda: Saying.read("a 3 sound b"), BadText, 0, 3)
        self.refused(lambda: Saying.read("a 3 sound b 4 sound"), BadText, 0, 3)
        self.refused(lambda: Saying.read("a a 3 sound"), BadText, 0, 1)

    def test_blanks(self):
        for text, word in ((" a 3 sound", 0), ("a  3 sound", 1), ("a 3  sound", 2), ("a 3 sound ", 3), (" ", 0), ("a ", 1),
                           ("a 3 ", 2), ("a\n3 sound", 0), ("a 3\nsound", 1), ("a 3 sound\n", 2), ("a 3 sound \n", 3)):
            self.refused(lambda: Saying.read(text), BadText, 0, word)

    def test_no_text(self):
        for value in [None, True, 0, *[value for value in STRANGE if not isinstance(value, str)]]:
            self.refused(lambda: Saying.read(value), BadText, 0, 0)


if __name__ == "__main__":
    unittest.main()
