"""Rows of all ten kinds [6]."""

import unittest

from kit import STRANGE, TOP, Case
from soundtill.errors import BadMoment, BadName, BadSaying, BadText, NoTool
from soundtill.lives import Lives
from soundtill.rows import (
    Agreed, Backed, Beginning, Begun, Check, Differed, Failed, Found, Meeting, Passed, Row, Served, SetBy, Trusted,
)
from soundtill.sayings import Saying

CLASSES = [Begun, SetBy, Found, Trusted, Passed, Failed, Agreed, Differed, Served, Backed]
FIELDS = {
    Begun: ["tool", "moment"], SetBy: ["tool", "moment", "by"], Found: ["tool", "moment", "is_sound"], Trusted: ["tool"],
    Passed: ["tool", "moment", "by"], Failed: ["tool", "moment", "by"],
    Agreed: ["one", "moment", "other", "later"], Differed: ["one", "moment", "other", "later"],
    Served: ["one", "moment", "other", "later"], Backed: ["one", "moment", "other", "later"],
}
VALUES = {"tool": "b", "moment": 7, "by": "a", "is_sound": True, "one": "b", "other": "a", "later": 3}
ERRORS = {"tool": BadName, "by": BadName, "one": BadName, "other": BadName, "moment": BadMoment, "later": BadMoment,
          "is_sound": BadSaying}


def values_of(made):
    return [VALUES[field] for field in FIELDS[made]]


def sample(made):
    return made(*values_of(made))


def said(row, lives):
    """The pairs of a row as texts."""
    return [tuple(str(saying) for saying in pair) for pair in row.pairs(lives)]


class Made(Case):
    def test_kinds(self):
        self.assertEqual(Row.KINDS, (
            "begun", "setby", "found", "trusted", "passed", "failed", "agreed", "differed", "served", "backed"))
        for made, kind in zip(CLASSES, Row.KINDS):
            self.assertEqual(sample(made).kind, kind)
            self.assertIn("kind", vars(sample(made)))

    def test_bases(self):
        bases = {Begun: (Beginning,), SetBy: (Beginning, Check)}
        for made in (Found, Trusted, Passed, Failed):
            bases[made] = (Check,)
        for made in (Agreed, Differed, Served, Backed):
            bases[made] = (Meeting,)
        for made in CLASSES:
            self.assertEqual(made.__bases__, bases[made])
        for made in (Beginning, Check, Meeting):
            self.assertEqual(made.__bases__, (Row,))

    def test_attributes_by_position_and_by_name(self):
        for made in CLASSES:
            by_name = made(**{field: VALUES[field] for field in FIELDS[made]})
            self.same(sample(made), by_name)
            for field in FIELDS[made]:
                self.assertEqual(getattr(by_name, field), VALUES[field])
                self.assertIn(field, vars(by_name))

    def test_begins(self):
        for made in CLASSES:
            self.assertIs(sample(made).begins, made in (Begun, SetBy))

    def test_tools_and_moments(self):
        for made in CLASSES:
            row = sample(made)
            two = {"by", "one"} & set(FIELDS[made])
            self.assertEqual(row.tools, ("a", "b") if two else ("b",))
            moments = (3, 7) if "later" in FIELDS[made] else () if made is Trusted else (7,)
            self.assertEqual(row.moments, moments)
        self.assertEqual(Agreed("a", 3, "b", 9).moments, (3, 9))
        self.assertEqual(Agreed("c", 9, "b", 9).moments, (9,))
        self.assertEqual(Agreed("c", 9, "c", 9).tools, ("c",))
        self.assertEqual(Passed("c", 9, "c").tools, ("c",))
        self.assertEqual(SetBy("c", 9, "c").tools, ("c",))

    def test_first_wrong_argument_alone(self):
        for made in CLASSES:
            fields = FIELDS[made]
            for at, field in enumerate(fields):
                for value in [None, *STRANGE]:
                    values = values_of(made)[:at] + [value] * (len(fields) - at)
                    self.refused(lambda: made(*values), ERRORS[field], value)
                    values = values_of(made)
                    values[at] = value
                    self.refused(lambda: made(*values), ERRORS[field], value)

    def test_bools_numbers_and_texts_in_the_wrong_place(self):
        self.refused(lambda: Passed("a", True, "b"), BadMoment, True)
        self.refused(lambda: Agreed("a", 0, "b", False), BadMoment, False)
        self.refused(lambda: Found("a", 1, 1), BadSaying, 1)
        self.refused(lambda: Found("a", 1, "sound"), BadSaying, "sound")
        self.refused(lambda: Found("a", 1, None), BadSaying, None)
        self.refused(lambda: Trusted(True), BadName, True)

    def test_beginnings_from_one_on(self):
        self.refused(lambda: Begun("a", 0), BadMoment, 0)
        self.refused(lambda: SetBy("a", 0, "b"), BadMoment, 0)
        self.refused(lambda: SetBy("a", 0, 5), BadMoment, 0)
        self.refused(lambda: Begun("a", True), BadMoment, True)
        self.assertEqual([Begun("a", 1).moment, SetBy("a", 1, "b").moment, Begun("a", TOP).moment], [1, 1, TOP])
        for made in (Passed, Failed):
            self.assertEqual(made("a", 0, "b").moment, 0)
        self.assertEqual(Found("a", 0, False).moments, (0,))
        self.assertEqual(Agreed("a", 0, "b", TOP).moments, (0, TOP))

    def test_equal(self):
        rows = [sample(made) for made in CLASSES]
        for at, row in enumerate(rows):
            for k, other in enumerate([sample(made) for made in CLASSES]):
                self.assertIs(row == other, at == k)
                self.assertIs(row != other, at != k)
            strange = [value for value in STRANGE if not isinstance(value, Row)]
            for other in [None, True, row.kind, str(row), tuple(values_of(type(row))), *strange]:
                self.unlike(row, other)
        for made in CLASSES:
            for at, field in enumerate(FIELDS[made]):
                values = values_of(made)
                values[at] = {"is_sound": False}.get(field, 8 if ERRORS[field] is BadMoment else "c")
                self.unlike(sample(made), made(*values))


class Pairs(Case):
    def setUp(self):
        self.lives = Lives({"b": [], "a": [9, 7, 9], "c": []})

    def test_table(self):
        top = str(TOP)
        for row, pairs in (
            (Begun("a", 7), []),
            (SetBy("a", 7, "b"), [("a 7 sound", "b 7 unsound")]),
            (Found("a", 5, True), [("a 5 unsound", "a 5 unsound")]),
            (Found("a", 5, False), [("a 5 sound", "a 5 sound")]),
            (Trusted("a"), [("a 6 unsound",) * 2, ("a 8 unsound",) * 2, (f"a {top} unsound",) * 2]),
            (Trusted("b"), [(f"b {top} unsound",) * 2]),
            (Passed("a", 8, "b"), [("b 8 sound", "a 8 unsound")]),
            (Failed("a", 8, "b"), [("b 8 sound", "a 8 sound")]),
            (Agreed("a", 3, "b", 9), [("a 3 sound", "b 9 unsound"), ("a 3 unsound", "b 9 sound")]),
            (Agreed("b", 9, "a", 3), [("b 9 sound", "a 3 unsound"), ("b 9 unsound", "a 3 sound")]),
            (Differed("a", 3, "b", 1), [("a 3 sound", "b 1 sound")]),
            (Served("a", 3, "b", 9), [("a 3 unsound", "b 9 unsound")]),
            (Backed("a", 3, "b", 9), [("a 3 sound", "b 9 unsound")]),
        ):
            self.assertEqual(said(row, self.lives), pairs)
            self.assertEqual(said(row, lives=self.lives), pairs)

    def test_kinds_of_what_is_returned(self):
        for made in CLASSES:
            pairs = sample(made).pairs(self.lives)
            self.assertIs(type(pairs), tuple)
            for pair in pairs:
                self.assertIs(type(pair), tuple)
                self.assertEqual([type(saying) for saying in pair], [Saying, Saying])

    def test_one_tool_named_twice(self):
        for row, pairs in (
            (SetBy("a", 7, "a"), [("a 7 sound", "a 7 unsound")]),
            (Passed("a", 7, "a"), [("a 7 sound", "a 7 unsound")]),
            (Failed("a", 7, "a"), [("a 7 sound", "a 7 sound")]),
            (Agreed("a", 7, "a", 7), [("a 7 sound", "a 7 unsound"), ("a 7 unsound", "a 7 sound")]),
            (Differed("a", 7, "a", 8), [("a 7 sound", "a 8 sound")]),
            (Served("a", 7, "a", 2), [("a 7 unsound", "a 2 unsound")]),
            (Backed("a", 7, "a", 7), [("a 7 sound", "a 7 unsound")]),
        ):
            self.assertEqual(said(row, self.lives), pairs)

    def test_other_lives(self):
        row = Trusted("a")
        self.assertEqual([one.moment for one, other in row.pairs(Lives({"a": []}))], [TOP])
        self.assertEqual([one.moment for one, other in row.pairs(Lives({"a": [1, TOP]}))], [0, TOP - 1, TOP])
        self.assertEqual([one.moment for one, other in row.pairs(self.lives)], [6, 8, TOP])
        self.assertEqual(str(row), "trusted a")

    def test_no_tool(self):
        for made in CLASSES:
            row = sample(made)
            self.refused(lambda: row.pairs(Lives({})), NoTool, row.tools[0])
            self.refused(lambda: row.pairs(Lives({"c": [5]})), NoTool, row.tools[0])
        self.refused(lambda: Begun("d", 3).pairs(self.lives), NoTool, "d")
        self.refused(lambda: Passed("z", 3, "d").pairs(self.lives), NoTool, "d")
        self.refused(lambda: Passed("a", 3, "d").pairs(self.lives), NoTool, "d")
        self.refused(lambda: Agreed("z", 3, "d", 4).pairs(Lives({"z": []})), NoTool, "d")


class Moved(Case):
    def test_later_and_earlier(self):
        for row, ticks, text in (
            (Begun("a", 7), 2, "begun a 9"), (Begun("a", 7), -6, "begun a 1"), (SetBy("a", 7, "b"), -6, "setby a 1 b"),
            (Found("a", 7, True), -7, "found a 0 sound"), (Trusted("a"), -9, "trusted a"), (Trusted("a"), 10 ** 31, "trusted a"),
            (Passed("a", 7, "b"), 3, "passed a 10 b"), (Failed("a", 7, "b"), 0, "failed a 7 b"),
            (Agreed("a", 3, "b", 9), -3, "agreed a 0 b 6"), (Differed("a", 3, "b", 9), 1, "differed a 4 b 10"),
            (Served("a", 3, "b", 9), 1, "served a 4 b 10"), (Backed("a", 3, "b", 9), TOP - 9, f"backed a {TOP - 6} b {TOP}"),
        ):
            before = str(row)
            moved = row << ticks
            self.assertEqual((str(moved), str(row), type(moved)), (text, before, type(row)))

    def test_refused(self):
        for row, ticks, moment in (
            (Begun("a", 7), -7, 0), (Begun("a", 7), -8, -1), (SetBy("a", 7, "b"), -7, 0), (Passed("a", 7, "b"), -8, -1),
            (Found("a", 7, True), TOP - 6, TOP + 1), (Agreed("a", 3, "b", 9), -4, -1), (Agreed("a", 9, "b", 3), -4, -1),
            (Agreed("a", 9, "b", 3), -10, -1), (Agreed("a", 9, "b", 3), -12, -3), (Agreed("a", 3, "b", 9), TOP - 4, TOP + 5),
            (Agreed("a", 9, "b", 3), TOP, TOP + 9), (Begun("a", TOP), 1, TOP + 1), (Failed("a", 0, "b"), 10 ** 60, 10 ** 60),
        ):
            self.refused(lambda: row << ticks, BadMoment, moment)

    def test_renamed(self):
        names = {"b": "std", "c": "d"}
        for made in CLASSES:
            row = sample(made)
            before = str(row)
            words = before.split(" ")
            self.same(row.renamed(names), Row.read(" ".join(["std" if word == "b" else word for word in words])))
            self.same(row.renamed({}), row)
            self.same(row.renamed(names={"x": 3}), row)
            self.assertEqual((str(row), names), (before, {"b": "std", "c": "d"}))
        self.same(SetBy("a", 7, "b").renamed({"a": "b", "b": "a"}), SetBy("b", 7, "a"))
        self.same(Agreed("a", 7, "b", 9).renamed({"a": "c", "b": "c"}), Agreed("c", 7, "c", 9))
        self.same(Passed("a", 7, "a").renamed({"a": "c"}), Passed("c", 7, "c"))

    def test_renamed_refused(self):
        for value in [None, True, 0, *STRANGE]:
            self.refused(lambda: Trusted("a").renamed({"a": value}), BadName, value)
            self.refused(lambda: Passed("a", 7, "b").renamed({"b": value}), BadName, value)
        self.refused(lambda: Passed("b", 7, "a").renamed({"a": 1, "b": 2}), BadName, 2)
        self.refused(lambda: Agreed("b", 7, "a", 8).renamed({"a": 1}), BadName, 1)
        self.refused(lambda: Begun("a", 7).renamed({"a": "sound"}), BadName, "sound")


class Texts(Case):
    def test_each_kind(self):
        for row, text in (
            (Begun("a", 1), "begun a 1"), (SetBy("a", 7, "b"), "setby a 7 b"), (Found("a", 0, True), "found a 0 sound"),
            (Found("a", TOP, False), "found a 1" + "0" * 30 + " unsound"), (Trusted("std"), "trusted std"),
            (Passed("a", 8, "b"), "passed a 8 b"), (Failed("a", 8, "a"), "failed a 8 a"),
            (Agreed("a", 3, "b", 9), "agreed a 3 b 9"), (Differed("a", 3, "b", 9), "differed a 3 b 9"),
            (Served("a", 9, "b", 3), "served a 9 b 3"), (Backed("a", 9, "a", 9), "backed a 9 a 9"),
        ):
            self.assertEqual(str(row), text)
            self.same(Row.read(text), row)
            self.same(Row.read(text=text), row)

    def test_each_word_exchanged_left_out_put_in_or_doubled(self):
        wrong = {"tool": ["", "A", "sound", "7", "b\n", "\nb", "b\nb", "abcdefghi"],
                 "moment": ["", "b", "-1", "07", "00", "7\n", "7_0", "1" * 32, str(TOP + 1), "9" * 31, "sound"],
                 "is_sound": ["", "true", "Sound", "sound\n", "7", "b"]}
        for name in ("by", "one", "other"):
            wrong[name] = wrong["tool"]
        wrong["later"] = wrong["moment"]
        for made in CLASSES:
            words = str(sample(made)).split(" ")
            for at, field in enumerate(FIELDS[made], 1):
                for word in wrong[field] + (["0"] if field == "moment" and made in (Begun, SetBy) else []):
                    text = " ".join(words[:at] + [word] + words[at + 1:])
                    self.refused(lambda: Row.read(text), BadText, 0, at)
                    self.refused(lambda: Row.read(text + " more more"), BadText, 0, at)
            for kind in ("", "Begun", "row", "record", "today", "empty", words[0] + "\n", "\n" + words[0]):
                self.refused(lambda: Row.read(" ".join([kind, *words[1:]])), BadText, 0, 0)
            for at in range(len(words)):
                self.refused(lambda: Row.read(" ".join(words[:at])), BadText, 0, at)
                self.refused(lambda: Row.read(" ".join(words[:at] + [""] + words[at:])), BadText, 0, at)
            for more in ("b", "7", "sound", "", "\n"):
                self.refused(lambda: Row.read(" ".join(words + [more])), BadText, 0, len(words))

    def test_words_left_out_and_doubled(self):
        for text, at in (("b 7", 0), ("begun 7", 1), ("begun b", 2), ("begun begun b 7", 1), ("begun b b 7", 2), ("begun b 7 7", 3),
                         ("found a sound", 2), ("found a 5", 3), ("found a 5 sound sound", 4), ("agreed a 3 9", 3),
                         ("agreed a b 9", 2), ("agreed a 3 b", 4), ("passed a 3", 3), ("passed a 3 b 4", 4), ("trusted", 1),
                         ("trusted a b", 2), ("begun a 0", 2), ("setby a 0 b", 2), ("begun", 1), ("", 0), (" ", 0)):
            self.refused(lambda: Row.read(text), BadText, 0, at)

    def test_zero_where_it_may_stand(self):
        for text in ("passed a 0 b", "agreed a 0 b 0", "found a 0 unsound"):
            self.assertEqual(str(Row.read(text)), text)

    def test_no_text(self):
        for value in [None, True, 0, *[value for value in STRANGE if not isinstance(value, str)]]:
            self.refused(lambda: Row.read(value), BadText, 0, 0)


if __name__ == "__main__":
    unittest.main()
