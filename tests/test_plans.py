"""What menus are worth, plans and stalls, held against a search of the tests' own over all plain histories [21]."""

import itertools
import random

from kit import STRANGE, TOP, Case
from made import keeping, some_book
from planned import WORDS, Search, other_plans, other_stalls
from soundtill.books import Book
from soundtill.entries import Entry
from soundtill.errors import BadEntry, Contradicted, Later, TooMany
from soundtill.judge import Judge
from soundtill.plans import Plan, Stall, plan, shows_plan, shows_stall, stall, worth
from soundtill.rows import Agreed, Begun, Differed, Failed, Found, Passed, Served, Trusted
from soundtill.sayings import Saying


def said(text):
    return Saying.read(text)


def check(text):
    tool, moment, by = text.split(" ")
    return Entry(tool, int(moment), by)


def some_menu(source):
    """Unlike entries, most of them checks by s."""
    menu = []
    for _ in range(source.choice((0, 1, 2, 3, 3, 4, 4))):
        entry = Entry(source.choice("aabbcd"), source.randint(0, 4), source.choice("sssssab"))
        if entry not in menu:
            menu.append(entry)
    return menu


def some_wanted(source, menu):
    """Up to three sayings, most of them about what is checked."""
    wanted = []
    for _ in range(source.choice((0, 1, 1, 2, 2, 3))):
        tool, moment = source.choice([(entry.tool, entry.moment) for entry in menu] * 3 + [("a", 2), ("b", 3), ("x", 1)])
        wanted.append(Saying(tool, moment, source.random() < 0.5))
    return wanted


def some_case(source):
    """A book that is not contradicted, a menu and wanted sayings."""
    while True:
        book = some_book(source, tools="abc", top=4, most=3)
        if source.random() < 0.85:
            book += Trusted("s")
        if keeping(book):
            menu = some_menu(source)
            return book, menu, some_wanted(source, menu)


def cases(count, seed):
    source = random.Random(seed)
    return [some_case(source) for _ in range(count)]


# What each worth from 0 to 4 and None is got with: s is trusted, so each check tells.
SHOP = Book(Trusted("s"))
CHECKS = [check(text) for text in ("a 5 s", "b 5 s", "c 5 s", "d 5 s")]
WANTED = [said(text) for text in ("a 5 sound", "b 5 unsound", "c 5 sound", "d 5 sound")]


class Worths(Case):
    def test_against_the_search(self):
        seen = []
        for book, menu, wanted in cases(200, 361):
            search, text = Search(book, menu, wanted), str(book)
            number = search.worth(search.start)
            self.assertEqual(worth(book, menu, wanted), number)
            self.assertEqual(worth(book=book, menu=tuple(menu), wanted=tuple(wanted)), number)
            self.same_plan(plan(book, menu, wanted), search.plan(search.start))
            for most in range(len(menu) + 2):
                self.same_plan(stall(book, menu, wanted, most), search.stall(search.start, most))
            self.assertEqual(str(book), text)
            seen.append(number)
        for number in (0, 1, 2, None):
            self.assertGreater(seen.count(number), 8, number)

    def same_plan(self, one, other):
        if other is None:
            self.assertIs(one, None)
        else:
            self.same(one, other)

    def test_each_worth(self):
        for count in range(5):
            for many in range(5):
                number = count if count <= many else None
                self.assertEqual(worth(SHOP, CHECKS[:many], WANTED[:count]), number)
                found = plan(SHOP, CHECKS[:many], WANTED[:count])
                self.assertEqual(None if found is None else (found.depth, len(found)), None if number is None else (count, 2 ** count - 1))
                for most in range(6):
                    shown = stall(SHOP, CHECKS[:many], WANTED[:count], most)
                    self.assertIs(shown is None, number is not None and number <= most)
        self.assertIs(worth(SHOP, CHECKS, WANTED[:1] * 3), 1)
        self.assertIs(type(worth(SHOP, CHECKS, WANTED)), int)

    def test_nothing_wanted_and_no_menu(self):
        for book in (Book(), SHOP, Book(Found("a", 5, True), r=("b", 3))):
            for menu in ([], (), CHECKS, tuple(CHECKS)):
                self.assertIs(worth(book, menu, []), 0)
                self.same(plan(book, menu, ()), Plan.done())
                self.assertIs(stall(book, menu, [], 0), None)
        self.assertIs(worth(SHOP, (), WANTED[:1]), None)
        self.assertIs(plan(SHOP, [], WANTED[:1]), None)
        self.same(stall(SHOP, [], [said("s 3 sound"), *WANTED], 7), Stall.end(1))

    def test_settled_before(self):
        book = Book(Trusted("s"), Found("a", 5, False))
        for wanted in ([said("s 0 sound")], [said("a 5 sound"), said("a 9 unsound"), said(f"s {TOP} unsound")]):
            self.assertIs(worth(book, CHECKS, wanted), 0)
            self.same(plan(book, CHECKS, wanted), Plan.done())
        self.assertIs(worth(book, CHECKS, [said("a 4 sound")]), None)

    def test_tools_that_no_row_and_no_check_names(self):
        for menu in ([], CHECKS):
            self.assertIs(worth(SHOP, menu, [said("x 0 sound")]), None)
            self.assertIs(worth(Book(), menu, [said("x 0 sound")]), None)
        self.assertIs(worth(Book(), [check("a 5 a")], [said("a 5 sound")]), None)
        self.assertIs(worth(Book(Found("a", 5, True)), [check("a 5 b")], [said("b 5 sound")]), None)
        self.assertIs(worth(Book(Found("a", 5, False)), [check("a 5 b")], [said("b 5 sound")]), None)

    def test_the_first_entry_that_gives_the_worth(self):
        both = [check("b 5 s"), check("a 5 s"), check("a 6 s"), check("a 4 s")]
        for menu in itertools.permutations(both):
            self.assertEqual(str(plan(SHOP, menu, [said("a 5 sound")])), "check a 5 by s done done")
        for menu in itertools.permutations([check("a 5 s"), check("b 5 s"), check("a 5 s2")]):
            book = Book(Trusted("s"), Trusted("s2"))
            found = plan(book, menu, [said("a 5 sound")])
            self.same(found.entry, [entry for entry in menu if entry.tool == "a"][0])
        for menu in itertools.permutations(CHECKS[:2]):
            self.same(plan(SHOP, menu, WANTED[:2]).entry, menu[0])

    def test_a_branch_for_an_outcome_that_is_not_possible(self):
        book = Book(Trusted("s"), Found("a", 5, True), Differed("b", 5, "c", 5), Served("b", 5, "c", 5))
        # If b passed, c is unsound: c cannot pass then.
        found = plan(book, [check("b 5 s"), check("c 5 s")], [said("b 5 sound"), said("c 5 sound")])
        self.assertEqual(str(found), "check b 5 by s done done")
        late = Book(Trusted("s"), Agreed("a", 3, "b", 3))
        found = plan(late, [check("a 9 s"), check("b 3 s")], [said("a 9 sound"), said("b 3 sound")])
        self.assertEqual(str(found), "check a 9 by s done check b 3 by s done done")
        chosen = plan(late, [check("b 3 s"), check("a 9 s")], [said("a 9 sound"), said("b 3 sound")])
        self.assertEqual(str(chosen), "check b 3 by s check a 9 by s done done done")

    def test_what_is_possible_depends_on_what_came_out(self):
        # One that is surely sound is checked by one that is open: if it fails, that one is unsound.
        book = Book(Found("a", 5, True), Served("b", 5, "c", 5), Differed("b", 5, "c", 5))
        menu = [check("a 5 b"), check("a 5 c")]
        self.assertIs(worth(book, menu, [said("b 5 sound")]), None)
        shown = stall(book, menu, [said("b 5 sound")], 2)
        self.same(shown, Stall.of((menu[0], "pass", Stall.of((menu[1], "pass", Stall.end(0)))), (menu[1], "pass", Stall.of((menu[0], "pass", Stall.end(0))))))
        # Behind a pass of a nothing else can pass, so all is settled.
        book = Book(Trusted("s"), Differed("a", 5, "b", 5), Differed("a", 5, "c", 5))
        menu, wanted = [check("a 5 s"), check("b 5 s"), check("c 5 s")], [said("a 5 sound"), said("b 5 sound"), said("c 5 sound")]
        found = plan(book, menu, wanted)
        self.assertEqual(str(found), "check a 5 by s done check b 5 by s check c 5 by s done done check c 5 by s done done")
        found = plan(book, menu[1:] + menu[:1], wanted)
        self.assertEqual((str(found.entry), found.depth), ("check b 5 by s", 3))


class Shown(Case):
    def test_plans_against_the_search(self):
        source, seen = random.Random(362), []
        for book, menu, wanted in cases(120, 363):
            search = Search(book, menu, wanted)
            found = plan(book, menu, wanted)
            if found is not None:
                self.assertIs(shows_plan(book, menu, wanted, found), True)
                self.assertIs(shows_plan(book=book, menu=tuple(menu), wanted=tuple(wanted), thing=found), True)
            others = list(other_plans(found, [*menu, Entry("a", 9, "b")]))
            for thing in source.sample(others, min(25, len(others))):
                self.assertIs(shows_plan(book, menu, wanted, thing), search.does(search.start, thing))
                seen.append(search.does(search.start, thing))
        self.assertGreater(min(seen.count(True), seen.count(False)), 30)

    def test_plans_that_do_as_well(self):
        menu, wanted = [check("a 9 s"), check("a 5 s"), check("a 2 s")], [said("a 5 sound")]
        done = Plan.done()
        direct = Plan.ask(menu[1], done, done)
        for thing, is_right in ((direct, True), (Plan.ask(menu[0], done, direct), True), (Plan.ask(menu[2], direct, done), True),
                                (Plan.ask(menu[0], done, Plan.ask(menu[2], direct, done)), True), (done, False), (Plan.ask(menu[0], done, done), False),
                                (Plan.ask(menu[0], direct, direct), False), (Plan.ask(menu[2], direct, None), False), (Plan.ask(menu[1], done, None), False),
                                (Plan.ask(menu[1], direct, done), False), (Plan.ask(menu[0], done, Plan.ask(menu[0], done, direct)), False),
                                (Plan.ask(check("a 5 s2"), done, done), False), (Plan.ask(menu[0], None, direct), False)):
            self.assertIs(shows_plan(SHOP, menu, wanted, thing), is_right, str(thing))
        self.assertIs(shows_plan(SHOP, menu[:1] + menu[2:], wanted, direct), False)
        self.assertIs(shows_plan(SHOP, menu, [], done), True)
        self.assertIs(shows_plan(SHOP, menu, [], direct), False)
        self.assertIs(shows_plan(SHOP, [], [], done), True)

    def test_a_branch_of_an_outcome_that_is_not_possible(self):
        book, menu = Book(Trusted("s"), Agreed("a", 3, "b", 3)), [check("a 9 s"), check("b 3 s")]
        wanted, done = [said("a 9 sound"), said("b 3 sound")], Plan.done()
        last = Plan.ask(menu[0], done, done)
        for thing, is_right in ((Plan.ask(menu[1], last, done), True), (Plan.ask(menu[1], last, Plan.ask(menu[0], None, done)), False)):
            self.assertIs(shows_plan(book, menu, wanted, thing), is_right)
        wanted = [said("a 9 sound"), said("b 3 sound"), said("b 9 sound")]
        menu = [check("b 9 s"), check("b 3 s"), check("a 9 s")]
        # Behind the failing of b at 3 it cannot pass at 9, and a at 3 is unsound, too.
        found = plan(book, menu[1:] + menu[:1], wanted)
        self.assertIs(shows_plan(book, menu, wanted, found), True)
        more = Plan.ask(menu[1], found.passed, Plan.ask(menu[0], None, done))
        self.assertIs(shows_plan(book, menu, wanted, more), False)

    def test_one_outcome_alone(self):
        # a is sound at 5: checked at 3 by s it can only pass, which settles nothing.
        book, menu = Book(Trusted("s"), Found("a", 5, True)), [check("a 3 s"), check("b 5 s")]
        wanted, done = [said("b 5 sound")], Plan.done()
        direct = Plan.ask(menu[1], done, done)
        for thing, is_right in ((direct, True), (Plan.ask(menu[0], direct, None), True), (Plan.ask(menu[0], direct, direct), False),
                                (Plan.ask(menu[0], direct, done), False), (Plan.ask(menu[0], None, direct), False), (Plan.ask(menu[0], done, None), False)):
            self.assertIs(shows_plan(book, menu, wanted, thing), is_right)
        shown = Stall.of((menu[0], "pass", Stall.end(0)), (menu[1], "pass", Stall.end(0)))
        self.assertIs(shows_stall(book, [menu[0], check("b 4 s")], wanted, 1, Stall.of((menu[0], "pass", Stall.end(0)), (check("b 4 s"), "pass", Stall.end(0)))), True)
        self.assertIs(shows_stall(book, [menu[0], check("b 4 s")], wanted, 1, Stall.of((menu[0], "fail", Stall.end(0)), (check("b 4 s"), "pass", Stall.end(0)))), False)
        self.assertIs(shows_stall(book, menu, wanted, 1, shown), False)

    def test_stalls_against_the_search(self):
        source, seen = random.Random(364), []
        for book, menu, wanted in cases(60, 365):
            search = Search(book, menu, wanted)
            for most in range(len(menu) + 2):
                found = stall(book, menu, wanted, most)
                if found is not None:
                    self.assertIs(shows_stall(book, menu, wanted, most, found), True)
                    self.assertIs(shows_stall(book=book, menu=tuple(menu), wanted=tuple(wanted), most=most, thing=found), True)
                for n in {0, most - 1, most + 1} - {-1}:
                    self.assertIs(shows_stall(book, menu, wanted, n, found), search.holds(search.start, n, found))
                others = list(other_stalls(Stall.of() if found is None else found, [*menu, Entry("a", 9, "b")]))
                for thing in source.sample(others, min(12, len(others))):
                    self.assertIs(shows_stall(book, menu, wanted, most, thing), search.holds(search.start, most, thing))
                    seen.append(search.holds(search.start, most, thing))
        self.assertGreater(min(seen.count(True), seen.count(False)), 30)

    def test_stalls_that_do_as_well(self):
        menu, wanted = [check("a 9 s"), check("a 2 s")], [said("s 5 sound"), said("a 5 sound"), said("a 4 unsound")]
        late, early = menu

        def of(word, other, at, k):
            return Stall.of((late, word, Stall.of((early, "pass", Stall.end(at)))), (early, other, Stall.of((late, "fail", Stall.end(k)))))

        self.same(stall(SHOP, menu, wanted, 2), of("fail", "pass", 1, 1))
        for at, k in itertools.product(range(4), repeat=2):
            self.assertIs(shows_stall(SHOP, menu, wanted, 2, of("fail", "pass", at, k)), at in (1, 2) and k in (1, 2))
        for word, other in itertools.product(WORDS, repeat=2):
            self.assertIs(shows_stall(SHOP, menu, wanted, 2, of(word, other, 1, 1)), (word, other) == ("fail", "pass"))
        for most in (0, 1, 3, 9, 10 ** 30):
            self.assertIs(shows_stall(SHOP, menu, wanted, most, of("fail", "pass", 1, 1)), most >= 2)
            self.same(stall(SHOP, menu, wanted, most), of("fail", "pass", 1, 1) if most >= 2 else [Stall.end(1), Stall.of((late, "fail", Stall.end(1)), (early, "pass", Stall.end(1)))][most])
        found = of("fail", "pass", 1, 1)
        for answers in (found.answers[::-1], found.answers[:1], found.answers[1:], (), (*found.answers, found.answers[0]), (found.answers[0],) * 2):
            self.assertIs(shows_stall(SHOP, menu, wanted, 2, Stall.of(*answers)), False)
        for first in (tuple(found.answers[0][:2]), (*found.answers[0], 1), list(found.answers[0]), None, (str(late), "fail", found.answers[0][2]), (late, "done", found.answers[0][2]),
                      (late, None, found.answers[0][2]), (late, [], found.answers[0][2]), (late, "fail", None), (late, "fail", Stall.end(1)), (early, "pass", found.answers[0][2])):
            self.assertIs(shows_stall(SHOP, menu, wanted, 2, Stall.of(first, found.answers[1])), False)
        for end in (True, False, None, "1", -1, said("a 5 sound"), (1,)):
            self.assertIs(shows_stall(SHOP, menu, wanted, 0, Stall.end(end)), False)
        self.assertIs(shows_stall(SHOP, menu, wanted, 0, Stall.of()), False)

    def test_any_values(self):
        for value in [None, True, 0, "done", Plan.done, Stall.end(0), SHOP, CHECKS, *CHECKS, *STRANGE]:
            self.assertIs(shows_plan(SHOP, CHECKS, WANTED, value), False)
            self.assertIs(shows_plan(SHOP, CHECKS, [], value), False)
        for value in [None, True, 0, "done", Plan.done(), SHOP, CHECKS, *CHECKS, *STRANGE]:
            for most in (0, 1, 4):
                self.assertIs(shows_stall(SHOP, CHECKS, WANTED, most, value), False)
                self.assertIs(shows_stall(SHOP, [], WANTED, most, value), False)
                self.assertIs(shows_stall(SHOP, CHECKS, WANTED, most, Stall.end(value)), value == 0 and value is not False and most == 0)
                self.assertIs(shows_stall(SHOP, CHECKS, WANTED, most, Stall.of(value, value, value, value)), False)


class Errors(Case):
    def all_five(self, book, menu, wanted):
        yield lambda: worth(book, menu, wanted)
        yield lambda: plan(book, menu, wanted)
        yield lambda: shows_plan(book, menu, wanted, None)
        for most in (0, 5):
            yield lambda most=most: stall(book, menu, wanted, most)
            yield lambda most=most: shows_stall(book, menu, wanted, most, None)

    def refused_all(self, book, menu, wanted, error, *fields):
        text, deeds, told = str(book), book.deeds, list(menu) if isinstance(menu, (list, tuple)) else menu
        for call in self.all_five(book, menu, wanted):
            self.refused(call, error, *fields)
        self.assertEqual((str(book), book.deeds), (text, deeds))
        self.assertEqual(list(menu) if isinstance(menu, (list, tuple)) else menu, told)

    def taken(self, book, menu, wanted):
        for call in self.all_five(book, menu, wanted):
            call()

    BARRED = Book(Found("a", 5, True), Found("a", 5, False))
    MANY = [Saying("x", k, True) for k in range(61)]

    def test_no_menu(self):
        for menu in [None, True, 0, CHECKS[0], SHOP, *[value for value in STRANGE if not isinstance(value, (list, tuple))]]:
            for book, wanted in ((SHOP, WANTED), (self.BARRED, []), (SHOP, self.MANY)):
                self.refused_all(book, menu, wanted, BadEntry, None)

    def test_items(self):
        for value in [None, True, 0, "check a 5 by s", CHECKS, CHECKS[0].passed, SHOP, *STRANGE]:
            for at in range(3):
                self.refused_all(SHOP, [*CHECKS[:at], value, *CHECKS[at:]], WANTED, BadEntry, at)
            self.refused_all(self.BARRED, (*CHECKS, Entry("e", 5, "s"), value), self.MANY, BadEntry, 5)
            self.refused_all(SHOP, (value, value), [], BadEntry, 0)
        for at in range(4):
            for k in range(at + 1):
                menu = [*CHECKS[:at + 1], Entry(CHECKS[k].tool, 5, "s"), *CHECKS[at + 1:], CHECKS[0]]
                self.refused_all(SHOP, menu, WANTED, BadEntry, at + 1)
                self.refused_all(self.BARRED, tuple(menu), self.MANY, BadEntry, at + 1)
        self.refused_all(SHOP, [*CHECKS, Entry("e", 5, "s"), Entry("e", 5, "s")], WANTED, BadEntry, 5)

    def test_too_many_entries(self):
        five = [*CHECKS, Entry("e", 5, "s")]
        for book, wanted in ((SHOP, WANTED), (self.BARRED, WANTED), (SHOP, self.MANY), (SHOP, [])):
            self.refused_all(book, five, wanted, TooMany, "entries", 4)
        self.refused_all(SHOP, (*five, Entry("f", 5, "s")), WANTED, TooMany, "entries", 4)
        self.taken(SHOP, five[1:], WANTED)

    def test_contradicted(self):
        for menu, wanted in (([], []), (CHECKS, WANTED), ((), self.MANY)):
            self.refused_all(self.BARRED, menu, wanted, Contradicted, 1)
        book = Book(*[Trusted("s")] * 80)
        book -= 79
        book += Found("s", 3, False)
        self.refused_all(book, CHECKS, self.MANY, Contradicted, 80)

    def test_what_putting_raises(self):
        book = Book(Trusted("s"))
        book.today = 5
        self.taken(book, CHECKS, WANTED)
        self.refused_all(book, [*CHECKS[:2], Entry("a", 6, "s"), Entry("a", 7, "s")], self.MANY, Later, 6)
        book = Book(*[Trusted("s")] * 76)
        self.taken(book, CHECKS, WANTED)
        book += Trusted("s")
        self.refused_all(book, CHECKS, self.MANY, TooMany, "rows", 80)
        self.taken(book, CHECKS[:3], WANTED)
        book.today = 5
        self.refused_all(book, [*CHECKS[:3], Entry("a", 6, "s")], WANTED, Later, 6)
        self.refused_all(book, [*CHECKS[:2], Entry("a", 6, "s"), CHECKS[2]], WANTED, Later, 6)
        book = Book(*[Trusted(f"t{k:02}") for k in range(9)])
        self.taken(book, CHECKS[:2], WANTED)
        self.refused_all(book, CHECKS[:3], self.MANY, TooMany, "tools", 12)
        self.refused_all(book, CHECKS, WANTED, TooMany, "tools", 12)
        book.today = 7
        self.refused_all(book, [*CHECKS[:3], Entry("a", 8, "s")], WANTED, TooMany, "tools", 12)
        self.refused_all(book, [Entry("a", 8, "s"), *CHECKS[:3]], WANTED, Later, 8)

    def test_points(self):
        book = Book(*[Found("a", k, True) for k in range(20)], r=("b", 3), q=("b", 3), p=("a", 4))
        told = [Saying("a", k, False) for k in range(20)] + [Saying("b", 3, True)]
        self.assertEqual(len(book.told), 21)
        menu = [Entry("a", 3, "b"), Entry("a", 30, "b"), Entry("c", 3, "b")]
        # Told are 21, and by the entries a at 30, b at 30, c at 3 more.
        for more, is_right in ((36, True), (37, False), (50, False)):
            wanted = [Saying("x", k, k % 2 == 0) for k in range(more)]
            for sayings in (wanted, wanted + wanted[:40], told + wanted, [~saying for saying in wanted] + told + wanted):
                if is_right:
                    self.taken(book, menu, sayings)
                else:
                    self.refused_all(book, menu, sayings, TooMany, "points", 60)
                    self.refused_all(book, tuple(menu), tuple(sayings), TooMany, "points", 60)
        self.taken(Book(), [], self.MANY[:60])
        self.refused_all(Book(), [], self.MANY, TooMany, "points", 60)
        self.taken(Book(), [Entry("x", 3, "x")], self.MANY[:60])
        self.taken(Book(), [Entry("x", 3, "y")], self.MANY[:59])
        self.refused_all(Book(), [Entry("x", 3, "y")], self.MANY[:60], TooMany, "points", 60)
        trusted = Book(Begun("x", 100), Trusted("x"))
        self.taken(trusted, [], self.MANY[:58])
        self.refused_all(trusted, [], self.MANY[:59], TooMany, "points", 60)
        self.refused_all(trusted, [Entry("x", 99, "x")], self.MANY[:59], TooMany, "points", 60)
        self.taken(trusted, [Entry("x", 99, "x")], self.MANY[:58])

    def test_a_book_with_many_points(self):
        book = Book(*[Found(f"t{k % 6}", k, True) for k in range(61)])
        self.refused_all(book, [], [], TooMany, "points", 60)
        book -= 60
        self.taken(book, [], [])
        self.refused_all(book, [], [Saying("t0", 70, True)], TooMany, "points", 60)
        self.taken(book, [Entry("t1", 1, "t1")], [Saying("t0", 0, True)])


class Whole(Case):
    def test_plans_that_are_played(self):
        source, count = random.Random(366), 0
        for book, menu, wanted in cases(150, 367):
            found = plan(book, menu, wanted)
            if found is None or found.depth == 0:
                continue
            search = Search(book, menu, wanted)
            for history in source.sample(search.kept, min(12, len(search.kept))):
                pairs = found(lambda entry: self.truly(history, entry, source))
                self.assertLessEqual(len(pairs), worth(book, menu, wanted))
                behind = book.twin()
                for entry, word in pairs:
                    behind += entry.row_of(word)
                judge = Judge(behind)
                self.assertTrue(all(judge(saying) in ("sure", "never") for saying in wanted))
                self.assertTrue(all((judge(saying) == "sure") == history(saying) for saying in wanted))
                count += 1
        self.assertGreater(count, 200)

    def truly(self, history, entry, source):
        """What comes out of a check if a history is what truly is; by an unsound tool anything may."""
        if not history[entry.by, entry.moment]:
            return source.choice(WORDS)
        return "pass" if history[entry.tool, entry.moment] else "fail"

    def test_a_stall_for_a_number_exactly_if_the_worth_is_above(self):
        for book, menu, wanted in cases(60, 368):
            number = worth(book, menu, wanted)
            for most in range(len(menu) + 2):
                self.assertIs(stall(book, menu, wanted, most) is None, number is not None and number <= most)

    def test_moved_and_renamed(self):
        names = {"a": "x1", "b": "a", "c": "zz", "d": "b", "s": "std", "x": "y"}
        for book, menu, wanted in cases(50, 369):
            moved = [Entry(entry.tool, entry.moment + 5, entry.by) for entry in menu], [saying << 5 for saying in wanted]
            self.assertEqual(worth(book << 5, *moved), worth(book, menu, wanted))
            renamed = [Entry(names[entry.tool], entry.moment, names[entry.by]) for entry in menu], [saying.renamed(names) for saying in wanted]
            other = book.renamed({tool: names[tool] for tool in book.tools})
            self.assertEqual(worth(other, *renamed), worth(book, menu, wanted))
            found, again = plan(book, menu, wanted), plan(other, *renamed)
            if found is not None:
                self.assertEqual(" ".join(names.get(word, word) for word in str(found).split(" ")), str(again))

    def test_a_row_that_follows_changes_no_worth(self):
        for book, menu, wanted in cases(40, 370):
            more = book.twin()
            for number, row in list(book.rows()):
                more += row
            self.assertEqual(worth(more, menu, wanted), worth(book, menu, wanted))
            self.assertEqual(str(plan(more, menu, wanted)), str(plan(book, menu, wanted)))

    def test_passed_and_failed_rows(self):
        book, menu, wanted = SHOP, CHECKS[:2], WANTED[:2]
        for word in WORDS:
            behind = book.twin()
            behind += CHECKS[0].row_of(word)
            self.assertEqual(worth(behind, menu, wanted), 1)
            behind += CHECKS[1].row_of(word)
            self.assertEqual(worth(behind, menu, wanted), 0)
        self.assertEqual(worth(Book(Trusted("s"), Passed("a", 5, "s"), Failed("b", 5, "s")), [], wanted), 0)
