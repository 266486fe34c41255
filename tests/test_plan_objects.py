"""Plans and stalls themselves: how they are made, read, measured and played [21] [23]."""

import itertools
import random

from kit import STRANGE, TOP, Case
from soundtill.books import Book
from soundtill.entries import Entry
from soundtill.errors import BadEntry, BadText
from soundtill.plans import Plan, Stall
from soundtill.rows import Failed, Passed
from soundtill.sayings import Saying
from soundtill.texts import plan_text

A, B, C = Entry("a", 5, "s"), Entry("b", 0, "b"), Entry("std", TOP, "x1")
DONE = Plan.done()


def some_plan(source, depth):
    """A plan with at most so many checks on a way."""
    if depth == 0 or source.random() < 0.25:
        return Plan.done()
    branches = [some_plan(source, depth - 1) for _ in range(2)]
    if source.random() < 0.3:
        branches[source.randrange(2)] = None
    return Plan.ask(source.choice((A, B, C)), *branches)


def plans(count, seed, depth=4):
    source = random.Random(seed)
    return [some_plan(source, depth) for _ in range(count)]


def parts(plan):
    """What a plan is, as nested tuples."""
    if plan is None:
        return None
    return "done" if plan.entry is None else (str(plan.entry), parts(plan.passed), parts(plan.failed))


def ways(plan):
    """For each way through a plan its words."""
    if plan.entry is None:
        yield ()
        return
    for word, branch in (("pass", plan.passed), ("fail", plan.failed)):
        if branch is not None:
            for way in ways(branch):
                yield (word, *way)


class Made(Case):
    def test_done(self):
        for plan in (Plan.done(), DONE):
            self.assertEqual((plan.entry, plan.passed, plan.failed, len(plan), plan.depth, str(plan)), (None, None, None, 0, 0, "done"))
        self.same(Plan.done(), Plan.done())

    def test_ask(self):
        both = Plan.ask(A, DONE, Plan.ask(B, None, DONE))
        self.same(both.entry, A)
        self.same(both.passed, DONE)
        self.same(both.failed, Plan.ask(entry=B, passed=None, failed=DONE))
        self.assertIs(both.failed.passed, None)
        self.assertEqual((len(both), both.depth, str(both)), (2, 2, "check a 5 by s done check b 0 by b none done"))

    def test_branches_are_kept_as_they_were_passed(self):
        for one in plans(60, 387):
            for other in (None, DONE, one):
                first, second = Plan.ask(A, one, other), Plan.ask(A, other, one)
                self.assertIs(first.passed, one)
                self.assertIs(first.failed, other)
                self.assertIs(second.passed, other)
                self.assertIs(second.failed, one)
                self.same(Plan.ask(A, one, None).passed, one)
                self.same(Plan.ask(A, None, one).failed, one)
        self.assertIs(Plan.done().passed, None)
        self.assertIs(Plan.done().failed, None)

    def test_the_entry_has_rows_of_the_same_names(self):
        entry = Entry("a", 5, "b")
        asked = Plan.ask(entry, DONE, None)
        self.same(entry.passed, Passed("a", 5, "b"))
        self.same(entry.failed, Failed("a", 5, "b"))
        self.same(asked.entry.passed, Passed("a", 5, "b"))
        self.same(asked.entry.failed, Failed("a", 5, "b"))

    def test_wrong_parts(self):
        values = [None, True, False, 0, "done", "none", Entry, Plan.done, Stall.end(0), Passed("a", 3, "b"), Book(), *STRANGE]
        for value in values:
            for branches in ((DONE, DONE), (DONE, None), (None, None), (1, 2)):
                self.refused(lambda: Plan.ask(value, *branches), BadEntry, 0)
            if value is None:
                continue
            for other in (DONE, None, value, 3):
                self.refused(lambda: Plan.ask(A, value, other), BadEntry, 1)
            for other in (DONE, None):
                self.refused(lambda: Plan.ask(A, other, value), BadEntry, 2)
        self.refused(lambda: Plan.ask(A, A, A), BadEntry, 1)
        self.refused(lambda: Plan.ask(A, None, None), BadEntry, 2)
        self.refused(lambda: Plan.ask(DONE, DONE, DONE), BadEntry, 0)

    def test_len_and_depth(self):
        for plan in plans(150, 381):
            told = list(ways(plan))
            self.assertEqual(plan.depth, max(len(way) for way in told))
            self.assertEqual(len(plan), str(plan).split(" ").count("check"))
        # An entry that stands twice counts twice.
        self.assertEqual((len(Plan.ask(A, Plan.ask(A, DONE, DONE), Plan.ask(A, DONE, None))), Plan.ask(A, Plan.ask(A, DONE, DONE), DONE).depth), (3, 2))

    def test_equal(self):
        found = plans(40, 382)
        for one, other in itertools.product(found, found):
            if parts(one) == parts(other):
                self.same(one, other)
            else:
                self.unlike(one, other)
        plan = Plan.ask(A, DONE, None)
        for other in (None, True, "done", str(plan), A, Stall.end(0), Plan.ask(A, None, DONE), Plan.ask(A, DONE, DONE), Plan.ask(B, DONE, None), DONE, (A, DONE, None), *STRANGE):
            self.unlike(plan, other)
        for other in (None, False, 0, "done", (), [], *STRANGE):
            self.unlike(DONE, other)


class Played(Case):
    def test_each_way(self):
        for plan in plans(100, 383):
            for way in ways(plan):
                words, asked = iter(way), []
                pairs = plan(lambda entry: (asked.append(entry), next(words))[1])
                self.assertIs(type(pairs), tuple)
                self.assertEqual([word for entry, word in pairs], list(way))
                self.assertEqual([entry for entry, word in pairs], asked)
                self.assertEqual(next(words, "no more"), "no more")
                here = plan
                for entry, word in pairs:
                    self.same(entry, here.entry)
                    here = here.passed if word == "pass" else here.failed
                self.assertIs(here.entry, None)

    def test_by_name_and_done(self):
        self.assertEqual(DONE(answer=lambda entry: 1 // 0), ())
        self.assertEqual(DONE(None), ())
        self.assertEqual(Plan.ask(A, DONE, None)(answer=lambda entry: "pass"), ((A, "pass"),))

    def test_words_that_are_no_outcome_or_have_no_branch(self):
        for plan in plans(60, 384):
            for way in ways(plan):
                for at in range(len(way)):
                    for value in [None, True, 0, "passed", "done", "Pass", A, STRANGE, *STRANGE]:
                        words = iter([*way[:at], value, *way[at:]])
                        self.refused(lambda: plan(lambda entry: next(words)), BadEntry, at)
        for missing, plan in (("fail", Plan.ask(A, DONE, None)), ("pass", Plan.ask(A, None, DONE))):
            self.refused(lambda: plan(lambda entry: missing), BadEntry, 0)
            more = Plan.ask(B, plan, plan)
            for first in ("pass", "fail"):
                words = iter([first, missing])
                self.refused(lambda: more(lambda entry: next(words)), BadEntry, 1)


class Texts(Case):
    def wrong(self, text, line, word):
        self.refused(lambda: Plan.read(text), BadText, line, word)

    def test_written_and_read_again(self):
        seen = []
        for plan in plans(300, 385):
            text = str(plan)
            self.assertEqual((plan_text(plan), plan_text(plan=plan)), (text, text))
            self.same(Plan.read(text), plan)
            self.assertEqual(str(Plan.read(text=text)), text)
            self.assertEqual(parts(Plan.read(text)), parts(plan))
            seen.append(plan.depth)
        self.assertEqual(set(seen), {0, 1, 2, 3, 4})

    def test_by_hand(self):
        for text, length, depth in (("done", 0, 0), ("check a 5 by s done done", 1, 1), ("check a 5 by s none done", 1, 1), ("check a 5 by s done none", 1, 1),
                                    ("check a 5 by s check b 0 by b none done done", 2, 2), ("check a 5 by s none check a 5 by s none check a 5 by s none check a 5 by s none done", 4, 4)):
            plan = Plan.read(text)
            self.assertEqual((str(plan), len(plan), plan.depth), (text, length, depth))

    def test_first_words(self):
        for text, word in (("", 0), ("none", 0), (" ", 0), ("Done", 0), ("done ", 1), ("done done", 1), (" done", 0), ("done none", 1), ("done check a 5 by s done done", 1),
                           ("pass", 0), ("check", 1), ("check a", 2), ("check a 5", 3), ("check a 5 by", 4), ("check a 5 by s", 5), ("check a 5 by s ", 5), ("none done", 0)):
            self.wrong(text, 0, word)

    def test_branches(self):
        ask = "check a 5 by s"
        for text, word in (("none none", 6), ("none", 6), ("done", 6), ("done done done", 7), ("done none none", 7), ("none done ", 7), ("fail done", 5), ("done fail", 6),
                           ("none Done", 6), (f"{ask} none none done", 11), (f"{ask} done none none none", 13), (f"{ask} done done", 12), (f"{ask} none done none none", 13),
                           (f"none {ask} none none", 12), (f"none {ask} done", 12), (f"{ask} done none {ask} none none", 18)):
            self.wrong(f"{ask} {text}", 0, word)

    def test_the_fifth_check_on_a_way(self):
        ask = "check a 5 by s"
        for branch, rest in (("done", 5), ("none", 5)):
            ahead = " ".join([f"{ask} {branch}"] * 4)
            self.wrong(f"{ahead} {ask} done done", 0, 24)
            self.wrong(f"{ahead} check", 0, 24)
            self.wrong(f"{ahead} Check", 0, 24)
            self.assertEqual(Plan.read(f"{ahead} done").depth, 4)
        deep = " ".join([ask] * 4)
        self.wrong(f"{deep} {ask}", 0, 20)
        self.wrong(f"{deep} done {ask} done", 0, 21)
        # On another way it may stand.
        wide = f"{deep} done done done done {ask} done done"
        self.assertEqual((len(Plan.read(wide)), Plan.read(wide).depth), (5, 4))

    def test_each_word_of_a_text_otherwise(self):
        for plan in plans(40, 386):
            words = str(plan).split(" ")
            for at in range(len(words)):
                for word in ("", "A", "sound", "record", "05", "1" * 32, str(TOP + 1), "checks", "by\n"):
                    text = " ".join([*words[:at], word, *words[at + 1:]])
                    if word == "checks" and (at and words[at - 1] in ("check", "by")):
                        Plan.read(text)
                    elif "\n" in word:
                        self.wrong_by_line(text, at, words)
                    else:
                        self.wrong(text, 0, at)
                self.wrong(" ".join(words[:at]), 0, at)
                self.wrong(" ".join([*words[:at], "", *words[at:]]), 0, at)
                self.wrong("\n".join([" ".join(words[:at]), " ".join(words[at:])]), 0, at)
            self.wrong(" ".join([*words, "done"]), 0, len(words))
            self.wrong(" ".join([*words, ""]), 0, len(words))
            for line in ("", "done", str(plan), "nonsense", "\n"):
                self.wrong(f"{plan}\n{line}", 1, 0)
            self.wrong(" ".join([*words, "done\ndone"]), 0, len(words))

    def wrong_by_line(self, text, at, words):
        """A newline behind the word "by" there: the word stands only where such a word does."""
        if words[at] == "by" or (at and words[at - 1] in ("check", "by")):
            self.wrong(text, 0, at + 1)
        else:
            self.wrong(text, 0, at)

    def test_no_string(self):
        for value in [None, True, 0, DONE, A, *[value for value in STRANGE if not isinstance(value, str)]]:
            self.wrong(value, 0, 0)


class Stalls(Case):
    def test_end(self):
        for at in [0, 3, 10 ** 40, None, True, "x", DONE, A, *STRANGE]:
            for stall in (Stall.end(at), Stall.end(at=at)):
                self.assertEqual((stall.at, stall.answers, len(stall)), (at, (), 1))
                self.assertIs(type(stall.at), type(at))
            self.same(Stall.end(at), Stall.end(at))

    def test_of(self):
        one = (A, "pass", Stall.end(0))
        other = (B, "fail", Stall.of(one, (C, "fail", Stall.of(one, one))))
        for answers, ends in (((one,), 1), ((one, one), 2), ((other,), 3), ((other, one, other), 7)):
            stall = Stall.of(*answers)
            self.assertIs(stall.at, None)
            self.assertIs(type(stall.answers), tuple)
            self.assertEqual((stall.answers, len(stall)), (answers, ends))
            self.same(Stall.of(*answers), stall)
        self.assertEqual((Stall.of().at, Stall.of().answers, len(Stall.of())), (None, (), 0))

    def test_of_any_values(self):
        for value in [None, True, 0, "x", DONE, A, *STRANGE]:
            for answers in ((value,), (value, value), (A, value), ((A, "pass", value),), ((value, value, Stall.end(value)),)):
                stall = Stall.of(*answers)
                self.assertIs(stall.at, None)
                self.assertEqual(stall.answers, answers)
                self.same(stall, Stall.of(*answers))
                self.unlike(stall, Stall.of(*answers, value))
                # An end counts that is the stall of an answer, which is a tuple of three.
                self.assertEqual(len(stall), 1 if answers[0] == (value, value, Stall.end(value)) else 0)
        for answer in ([A, "pass", Stall.end(0)], (A, Stall.end(0)), (A, "pass", Stall.end(0), 0), (Stall.end(0), "pass", A), Stall.end(0)):
            self.assertEqual(len(Stall.of(answer)), 0)

    def test_equal(self):
        one, other = (A, "pass", Stall.end(0)), (A, "fail", Stall.end(0))
        stalls = [Stall.end(0), Stall.end(1), Stall.of(one), Stall.of(other), Stall.of(one, other), Stall.of(other, one), Stall.of((B, "pass", Stall.end(0))),
                  Stall.of((A, "pass", Stall.end(1))), Stall.of((A, "pass", Stall.of(one)))]
        for (at, first), (k, second) in itertools.product(enumerate(stalls), enumerate(stalls)):
            if at != k:
                self.unlike(first, second)
        for stall in stalls:
            for value in [None, True, 0, "x", (one,), stall.answers, Saying("a", 3, True), DONE, *STRANGE]:
                self.unlike(stall, value)
