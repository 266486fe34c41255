"""Steps and chains [11]."""

import unittest

from kit import STRANGE, TOP, Case
from soundtill.chains import Chain, Step
from soundtill.errors import BadChain, NoTool
from soundtill.histories import History
from soundtill.lives import Lives
from soundtill.sayings import Saying

A3, A8, B3, B9 = Saying("a", 3, True), Saying("a", 8, True), Saying("b", 3, False), Saying("b", 9, True)
NO_SAYINGS = [None, True, 0, "a 3 sound", ("a", 3, True), *[value for value in STRANGE if not isinstance(value, Saying)]]


class Steps(Case):
    def test_attributes(self):
        for reason in ("time", 0, 80, 10 ** 40):
            step = Step(A3, B9, reason)
            self.same(step.one, A3)
            self.same(step.other, B9)
            self.assertEqual(step.reason, reason)
            self.assertEqual(sorted(vars(step)), ["one", "other", "reason"])
            self.same(step, Step(reason=reason, other=B9, one=A3))

    def test_whether_it_is_a_step_of_a_book_is_not_looked_at(self):
        self.assertEqual(str(Step(A3, A3, "time")), "a 3 sound, a 3 sound by time")

    def test_first_wrong_argument(self):
        for value in NO_SAYINGS:
            self.refused(lambda: Step(value, B9, 0), BadChain, 0)
            self.refused(lambda: Step(value, value, value), BadChain, 0)
            self.refused(lambda: Step(A3, value, 0), BadChain, 1)
            self.refused(lambda: Step(A3, value, value), BadChain, 1)
        for value in [None, True, False, "Time", "0", "by", A3, *[value for value in STRANGE if value not in (TOP + 1, 10 ** 60 - 1)]]:
            self.refused(lambda: Step(A3, B9, value), BadChain, 2)

    def test_turned(self):
        step = Step(A3, B9, 4)
        self.same(~step, Step(~B9, ~A3, 4))
        self.same(~~step, step)
        self.same(~Step(A8, A3, "time"), Step(~A3, ~A8, "time"))

    def test_equal(self):
        self.same(Step(A3, B9, 0), Step(Saying("a", 3, True), Saying("b", 9, True), 0))
        for other in (Step(A8, B9, 0), Step(A3, B3, 0), Step(A3, B9, 1), Step(A3, B9, "time"), Step(B9, A3, 0)):
            self.unlike(Step(A3, B9, 0), other)
        for other in [None, 0, "time", (A3, B9, 0), Chain(Step(A3, B9, 0)), *STRANGE]:
            self.unlike(Step(A3, B9, 0), other)

    def test_text(self):
        self.assertEqual(str(Step(A3, B9, 0)), "a 3 sound, b 9 sound by 0")
        self.assertEqual(str(Step(~A3, ~A8, "time")), "a 3 unsound, a 8 unsound by time")


class Chains(Case):
    def setUp(self):
        self.steps = (Step(A3, B9, 5), Step(B9, ~B3, "time"), Step(~B3, A8, 0), Step(A8, A3, "time"), Step(A3, B9, 5))
        self.chain = Chain(*self.steps)

    def test_properties(self):
        self.same(self.chain.source, A3)
        self.same(self.chain.goal, B9)
        self.assertEqual(self.chain.steps, self.steps)
        self.assertIs(type(self.chain.steps), tuple)
        self.assertEqual((self.chain.numbers, len(self.chain)), ((0, 5), 5))
        back = [Step(A3, A3, number) for number in (8, 1, 64, 8, 3)]
        self.assertEqual(Chain(*back).numbers, (1, 3, 8, 64))
        self.assertEqual((Chain(self.steps[1]).numbers, Chain(self.steps[0]).numbers), ((), (5,)))

    def test_made_refused(self):
        self.refused(lambda: Chain(), BadChain, None)
        for value in [None, True, 0, A3, self.steps, self.chain, *STRANGE]:
            self.refused(lambda: Chain(value), BadChain, 0)
            self.refused(lambda: Chain(self.steps[0], self.steps[1], value), BadChain, 2)
            self.refused(lambda: Chain(self.steps[0], value, value), BadChain, 1)
            self.refused(lambda: Chain(self.steps[0], self.steps[2], value), BadChain, 1)
        self.refused(lambda: Chain(self.steps[0], self.steps[2]), BadChain, 1)
        self.refused(lambda: Chain(self.steps[0], self.steps[1], self.steps[1]), BadChain, 2)
        self.refused(lambda: Chain(Step(A3, B9, 0), Step(~B9, A3, 0)), BadChain, 1)
        self.refused(lambda: Chain(Step(A3, B9, 0), Step(Saying("b", 8, True), A3, 0)), BadChain, 1)

    def test_item(self):
        for k, step in enumerate(self.steps):
            self.same(self.chain[k], step)
        for value in [None, True, False, -1, 5, "0", *STRANGE]:
            self.refused(lambda: self.chain[value], BadChain, value)
        self.refused(lambda: Chain(self.steps[0])[True], BadChain, True)

    def test_not_iterated_over(self):
        with self.assertRaises(TypeError):
            iter(self.chain)

    def test_plus(self):
        one, other = Chain(*self.steps[:2]), Chain(*self.steps[2:])
        self.same(one + other, self.chain)
        self.assertEqual((len(one), len(other)), (2, 3))
        self.refused(lambda: other + other, BadChain, 3)
        self.refused(lambda: one + one, BadChain, 2)
        self.refused(lambda: self.chain + self.chain, BadChain, 5)
        round_trip = Chain(*self.steps[:4])
        self.assertEqual(len(round_trip + round_trip), 8)

    def test_turned(self):
        self.same(~self.chain, Chain(*[~step for step in reversed(self.steps)]))
        self.same(~~self.chain, self.chain)
        self.same((~self.chain).source, ~self.chain.goal)
        self.same((~self.chain).goal, ~self.chain.source)

    def test_equal(self):
        self.same(self.chain, Chain(*self.steps))
        self.unlike(self.chain, Chain(*self.steps[:4]))
        self.unlike(self.chain, ~self.chain)
        self.unlike(Chain(Step(A3, B9, 0)), Chain(Step(A3, B9, 1)))
        for other in [None, 5, str(self.chain), self.steps, list(self.steps), *STRANGE]:
            self.unlike(self.chain, other)

    def test_text(self):
        self.assertEqual(str(Chain(self.steps[1])), "b 9 sound, b 3 sound by time")
        self.assertEqual(str(self.chain), "a 3 sound, b 9 sound by 5, b 3 sound by time, a 8 sound by 0, a 3 sound by time, "
                                          "b 9 sound by 5")


class Called(Case):
    def test_first_broken_step(self):
        lives = Lives({"a": [], "b": []})
        chain = Chain(Step(A3, B9, 0), Step(B9, ~B3, "time"), Step(~B3, A8, 1))
        for a, b, at in ((None, None, None), (4, None, 2), (9, 10, None), (3, None, 2), (4, 9, 0), (4, 3, 0), (3, 3, None), (3, 4, 2)):
            history = History(lives, {("a", 0): a, ("b", 0): b})
            self.assertEqual(chain(history), at)
            self.assertEqual(chain(history=history), at)

    def test_no_tool(self):
        c, d = Saying("c", 1, True), Saying("d", 1, True)
        always = History.always(Lives({"a": []}))
        self.refused(lambda: Chain(Step(A3, ~A3, 0), Step(~A3, c, 1), Step(c, d, 2))(always), NoTool, "c")
        self.refused(lambda: Chain(Step(A3, ~A8, 0), Step(~A8, A3, 1), Step(A3, d, 2))(always), NoTool, "d")
        self.refused(lambda: Chain(Step(d, c, 0), Step(c, A3, 1))(always), NoTool, "d")
        self.refused(lambda: Chain(Step(A3, d, 0))(History.always(Lives({}))), NoTool, "a")


if __name__ == "__main__":
    unittest.main()
