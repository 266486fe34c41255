"""What the interface lists stands where it lists it: in the file, and in the body of the class itself."""

import importlib
import inspect
import unittest

METHODS = {
    "sayings.Saying": "sound unsound point __invert__ __lshift__ renamed __eq__ is_ahead __str__ read MOST",
    "lives.Lives": "tools listed beginnings life_of last_of __contains__ __len__ __eq__ __bool__",
    "rows.Row": "KINDS begins tools moments pairs __lshift__ renamed __eq__ __str__ read",
    "books.Book": "MOST_ROWS MOST_RECORDS MOST_TOOLS put __iadd__ __isub__ row_of rows __setitem__ __getitem__ drop "
                  "__contains__ records __len__ __bool__ tools lives told today set_today deeds known twin trial tried "
                  "__eq__ __add__ __or__ __and__ __lshift__ renamed __str__ read",
    "histories.History": "__getitem__ turn __call__ lives turns __eq__ is_ahead with_turn broken keeps plain always middle "
                         "__str__",
    "chains.Step": "__invert__ __eq__ __str__",
    "chains.Chain": "source goal steps numbers __len__ __getitem__ __add__ __invert__ __eq__ __call__ __str__",
    "chains.Reach": "told leads shortest reached ring",
    "judge.Judge": "__call__ shown record each_record history_with told settled book",
    "judge.Verdict": "__bool__ __invert__ __eq__", "judge.Sure": "__bool__ __invert__ __eq__",
    "judge.Never": "__bool__ __invert__ __eq__", "judge.Open": "__bool__ __invert__ __eq__",
    "lists.Listed": "__bool__ __eq__", "lists.Together": "__bool__ __eq__", "lists.Apart": "__bool__ __eq__",
    "lots.Lots": "MOST LONGEST __setitem__ __iadd__ __getitem__ drop verdict shown __contains__ __len__ names __eq__ together apart recall",
    "follows.RowPaper": "__bool__ __eq__", "follows.Follows": "__bool__ __eq__", "follows.Broken": "__bool__ __eq__",
    "turns.Turns": "whole __contains__ __bool__ least __and__ __or__ __invert__ within __eq__ __str__",
    "lookers.Looker": "is_step is_chain is_ring is_history __call__ shows_turns",
    "entries.Entry": "passed failed row_of __eq__ is_ahead __str__ read",
    "plans.Plan": "done ask __len__ depth __eq__ __str__ read __call__", "plans.Stall": "end of __len__ __eq__",
    "desk.Desk": "book menu wanted say __call__ run",
}
PROPERTIES = {
    "sayings.Saying": "point", "lives.Lives": "tools listed", "rows.Row": "begins tools moments",
    "books.Book": "records tools lives told today deeds", "histories.History": "lives turns",
    "chains.Chain": "source goal steps numbers", "chains.Reach": "told",
    "judge.Judge": "told settled book", "turns.Turns": "least", "lots.Lots": "names",
    "entries.Entry": "passed failed", "plans.Plan": "depth", "desk.Desk": "book menu wanted",
}
STATICS = {
    "sayings.Saying": "sound unsound", "histories.History": "always middle", "turns.Turns": "whole", "plans.Plan": "done ask", "plans.Stall": "end of",
}
CLASS_METHODS = {"sayings.Saying": "read", "rows.Row": "read", "books.Book": "read", "entries.Entry": "read", "plans.Plan": "read"}
ARGUMENTS = {
    "sayings.Saying": "tool moment is_sound", "lives.Lives": "begun", "rows.Begun": "tool moment", "rows.SetBy": "tool moment by",
    "rows.Found": "tool moment is_sound", "rows.Trusted": "tool", "rows.Passed": "tool moment by", "rows.Failed": "tool moment by",
    "rows.Agreed": "one moment other later", "rows.Differed": "one moment other later", "rows.Served": "one moment other later",
    "rows.Backed": "one moment other later", "books.Book": "*rows **records", "histories.History": "lives turns",
    "chains.Step": "one other reason", "chains.Chain": "*steps", "chains.Reach": "book *points", "texts.book_text": "book",
    "sayings.Saying.sound": "tool moment", "sayings.Saying.unsound": "tool moment", "sayings.Saying.renamed": "self names",
    "sayings.Saying.is_ahead": "self other", "sayings.Saying.read": "text", "lives.Lives.beginnings": "self tool",
    "lives.Lives.life_of": "self tool moment", "lives.Lives.last_of": "self life", "rows.Row.pairs": "self lives",
    "rows.Row.renamed": "self names", "rows.Row.read": "text", "books.Book.put": "self row", "books.Book.row_of": "self number",
    "books.Book.rows": "self", "books.Book.drop": "self name", "books.Book.set_today": "self value", "books.Book.known": "self n",
    "books.Book.twin": "self", "books.Book.trial": "self", "books.Book.tried": "self ask", "books.Book.renamed": "self names",
    "books.Book.read": "text", "histories.History.turn": "self tool moment", "histories.History.is_ahead": "self other",
    "histories.History.with_turn": "self tool moment turn", "histories.History.broken": "self book",
    "histories.History.keeps": "self book", "histories.History.plain": "self book *points", "histories.History.always": "lives",
    "histories.History.middle": "one two three", "chains.Reach.leads": "self one other", "chains.Reach.shortest": "self one other",
    "chains.Reach.reached": "self one", "chains.Reach.ring": "self",
    "judge.Judge": "book *points", "judge.Sure": "saying chain", "judge.Never": "saying chain", "judge.Open": "saying yes no",
    "judge.Judge.__call__": "self saying", "judge.Judge.shown": "self saying", "judge.Judge.record": "self name",
    "judge.Judge.each_record": "self", "judge.Judge.history_with": "self *sayings",
    "turns.Turns": "first last stretches=() has_none=False", "turns.Turns.whole": "first last", "turns.Turns.within": "self other",
    "turns.turns_of": "judge tool moment", "turns.turn_sayings": "lives tool moment turn", "every.histories": "judge",
    "every.first_history": "judge *sayings", "every.count": "judge most=1000",
    "lists.Together": "sayings history", "lists.Apart": "sayings one other chain", "lists.together": "judge sayings",
    "lists.grown": "judge sayings", "lists.shut": "judge", "lots.Lots": "judge **lots", "lots.Lots.drop": "self name",
    "lots.Lots.verdict": "self name", "lots.Lots.shown": "self name", "lots.Lots.together": "self *names", "lots.Lots.apart": "self",
    "lots.Lots.recall": "self surely=False", "follows.Follows": "evidence chains", "follows.Broken": "evidence history",
    "follows.follows": "judge row", "follows.shown_row": "judge row", "follows.needless": "book", "follows.thinned": "book",
    "held.at_most": "one other", "held.alike": "one other", "held.parting": "one other",
    "lookers.Looker": "book most=2000", "lookers.Looker.is_step": "self thing", "lookers.Looker.is_chain": "self thing one other",
    "lookers.Looker.is_ring": "self thing", "lookers.Looker.is_history": "self thing", "lookers.Looker.__call__": "self thing",
    "lookers.Looker.shows_turns": "self tool moment thing papers", "entries.Entry": "tool moment by", "entries.Entry.row_of": "self word",
    "entries.Entry.is_ahead": "self other", "entries.Entry.read": "text", "entries.outcomes": "book entry", "entries.settles": "book entry wanted",
    "plans.worth": "book menu wanted", "plans.plan": "book menu wanted", "plans.stall": "book menu wanted most",
    "plans.shows_plan": "book menu wanted thing", "plans.shows_stall": "book menu wanted most thing", "plans.Plan.done": "",
    "plans.Plan.ask": "entry passed failed", "plans.Plan.read": "text", "plans.Plan.__call__": "self answer", "plans.Stall.end": "at",
    "plans.Stall.of": "*answers", "known.known_words": "book saying", "known.changes": "book saying", "known.since": "book saying",
    "texts.plan_text": "plan", "reports.report": "judge", "desk.Desk": "", "desk.Desk.say": "self line", "desk.Desk.__call__": "self line",
    "desk.Desk.run": "self *lines", "judge.Judge.__call__": "self saying", "histories.History.__call__": "self saying", "chains.Chain.__call__": "self history",
}
GENERATORS = ["books.Book.rows", "chains.Reach.reached", "judge.Judge.each_record", "every.histories", "lists.shut", "lots.Lots.apart", "known.known_words"]
ERRORS = {
    "BadName": "name", "BadMoment": "moment", "BadSaying": "value", "BadPoint": "value", "BadRow": "at", "BadTurn": "at", "BadTurns": "at", "NoTool": "tool",
    "NoRow": "number", "NoDeed": "number", "NoRecord": "name", "NoLot": "name", "NoLife": "value", "NoEvidence": "word", "TooMany": "what most", "Later": "moment",
    "Clash": "name", "Unlike": "tool", "Contradicted": "number", "BadChain": "at", "BadEntry": "at", "BadText": "line word", "NoLine": "",
}
BASES = {
    "rows.Beginning": "Row", "rows.Check": "Row", "rows.Meeting": "Row", "rows.Begun": "Beginning", "rows.SetBy": "Beginning Check", "rows.Found": "Check",
    "rows.Trusted": "Check", "rows.Passed": "Check", "rows.Failed": "Check", "rows.Agreed": "Meeting", "rows.Differed": "Meeting", "rows.Served": "Meeting",
    "rows.Backed": "Meeting", "judge.Settled": "Verdict", "judge.Open": "Verdict", "judge.Sure": "Settled", "judge.Never": "Settled", "lists.Together": "Listed",
    "lists.Apart": "Listed", "follows.Follows": "RowPaper", "follows.Broken": "RowPaper",
}


def found(path):
    """The thing that a path of names tells, and the module."""
    module, *names = path.split(".")
    thing = home = importlib.import_module(f"soundtill.{module}")
    for name in names:
        thing = getattr(thing, name)
    return thing, home


class Interface(unittest.TestCase):
    def test_methods_in_their_classes(self):
        for path, names in METHODS.items():
            for name in names.split():
                self.assertIn(name, vars(found(path)[0]), path)

    def test_properties(self):
        for path, names in PROPERTIES.items():
            for name in names.split():
                self.assertIsInstance(vars(found(path)[0])[name], property)

    def test_static_and_class_methods(self):
        for kind, paths in ((staticmethod, STATICS), (classmethod, CLASS_METHODS)):
            for path, names in paths.items():
                for name in names.split():
                    self.assertIsInstance(vars(found(path)[0])[name], kind, path)

    def test_generators(self):
        for path in GENERATORS:
            self.assertTrue(inspect.isgeneratorfunction(found(path)[0]), path)

    def test_errors(self):
        for name, fields in ERRORS.items():
            kind, home = found(f"errors.{name}")
            self.assertEqual([base.__name__ for base in kind.__bases__], ["TillError"])
            values = list(range(len(fields.split())))
            for made in (kind(*values), kind(**dict(zip(fields.split(), values)))):
                self.assertEqual(vars(made), dict(zip(fields.split(), values)))
        self.assertEqual({kind.__name__ for kind in found("errors.TillError")[0].__subclasses__()}, set(ERRORS))
        self.assertIs(found("errors.TillError")[0].__base__, ValueError)

    def test_bases(self):
        for path, names in BASES.items():
            self.assertEqual([base.__name__ for base in found(path)[0].__bases__], names.split(), path)

    def test_attributes_are_set_when_an_object_is_made(self):
        entry, done = found("entries.Entry")[0]("a", 3, "b"), found("plans.Plan")[0].done()
        ask, stall = found("plans.Plan")[0].ask(entry, done, None), found("plans.Stall")[0]
        for thing, names in ((entry, "tool moment by"), (done, "entry"), (ask, "entry"), (stall.end(3), "at answers"), (stall.of(3), "at answers")):
            self.assertLessEqual(set(names.split()), set(vars(thing)))
        # The branches are properties, as no attribute may have the name of a property of an Entry.
        for plan, branches in ((done, (None, None)), (ask, (done, None))):
            self.assertEqual((plan.passed, plan.failed), branches)

    def test_arguments(self):
        for path, names in ARGUMENTS.items():
            signature = inspect.signature(found(path)[0])
            self.assertEqual([str(parameter) for parameter in signature.parameters.values()], names.split(), path)

    def test_each_thing_is_defined_in_its_file(self):
        for path in [*METHODS, *ARGUMENTS]:
            thing, home = found(path)
            self.assertEqual(thing.__module__, home.__name__, path)


if __name__ == "__main__":
    unittest.main()
