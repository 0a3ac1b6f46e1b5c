"""Promises 2, 3 and 11: shown worths led back, and the houses that make them sure."""

import copy
import itertools
import random
import unittest

from poolbook.errors import NoKind, NoThing, Odd, PoolError
from poolbook.houses import kinds
from poolbook.tables import one_table
from poolbook.ties import told_worths
from poolbook.whys import sure, why
from samples import (ANYTHING, ENDS, WORDS, bare, book, call, calls, chance_rules, rules, shown_by_words,
                     sound_book, table, told_book)

FIRST, LAST = ENDS
WHOLE = calls("a.0 b.0 c.0 d.0")


class Why(unittest.TestCase):
    def told(self, word, trust, worths, worth, agreeing, others):
        """That why tells this of what the houses a, b, .. tell; agreeing and others are told as names of houses."""
        made = told_book(*worths)
        cells = [[((name, 0), (name, "x")) for name in names] for names in (agreeing, others)]
        for name in "abcd"[:len(worths)]:
            found = why(made, rules(" ".join(trust), f"a.x={word}"), WHOLE[:len(worths)], (name, "x"))
            self.assertEqual(found, (worth, word, cells[0], cells[1]))
            self.assertEqual([type(part) for part in found], [type(worth), str, list, list])

    def test_first(self):
        self.told("first", "abc", (1, 2, 1), 1, "ac", "b")
        self.told("first", "bac", (1, 2, 1), 2, "b", "ac")
        self.told("first", "bac", (1, None, 2), 1, "a", "c")

    def test_greatest_and_least(self):
        self.told("greatest", "abcd", (1, 2, "x", "x"), "x", "cd", "ab")
        self.told("least", "abcd", (1, 2, "x", 1), 1, "ad", "bc")

    def test_most(self):
        self.told("most", "abcd", (1, 2, 3, 2), 2, "bd", "ac")
        self.told("most", "cabd", (1, 2, 2, 1), 2, "bc", "ad")

    def test_only(self):
        self.told("only", "abc", (4, None, 4), 4, "ac", "")
        self.told("only", "abc", (4, 4, 4), 4, "abc", "")

    def test_only_that_chooses_none(self):
        self.told("only", "abcd", (4, None, 5, 4), None, "", "acd")
        self.told("only", "ab", (0, "x"), None, "", "ab")

    def test_nothing_told(self):
        for word in WORDS:
            self.told(word, "abc", (None, None, None), None, "", "")

    def test_none_is_neither_agreeing_nor_another(self):
        for word in WORDS:
            self.told(word, "bac", (None, None, 0), 0, "c", "")

    def test_kinds_without_a_choice_have_first(self):
        found = why(told_book(3, 4), rules("b a"), calls("a.0 b.0"), call("a.x"))
        self.assertEqual(found, (4, "first", [calls("b.0 b.x")], [calls("a.0 a.x")]))

    def test_of_choices_for_one_kind_the_first_counts(self):
        found = why(told_book(3, 4), rules("b a", "a.x=least b.x=greatest"), calls("a.0 b.0"), call("b.x"))
        self.assertEqual(found, (3, "least", [calls("a.0 a.x")], [calls("b.0 b.x")]))

    def test_columns_are_those_of_the_rows_houses(self):
        houses = (("elm", table("code size", r4=(1, "red"))), ("fir", table("far", r5=(1,))),
                  ("oak", table("mark size", r7=("x", "red"))))
        made = book(houses, "elm.code-fir.far elm.code-oak.mark elm.size-oak.size", (), "elm.4-fir.5 fir.5-oak.7")
        thing = calls("elm.4 fir.5 oak.7")
        self.assertEqual(why(made, rules("oak fir elm", "fir.far=most"), thing, call("oak.mark")),
                         (1, "most", [calls("elm.4 elm.code"), calls("fir.5 fir.far")], [calls("oak.7 oak.mark")]))
        self.assertEqual(why(made, rules("oak fir elm"), thing, call("elm.size")),
                         ("red", "first", [calls("elm.4 elm.size"), calls("oak.7 oak.size")], []))

    def test_a_kind_of_which_no_row_of_the_thing_tells(self):
        made = book((("elm", table("a", r0=(1,))), ("oak", table("b", r0=(2,)))))
        told = rules("elm oak", "oak.b=most")
        self.assertEqual(why(made, told, calls("elm.0"), call("oak.b")), (None, "most", [], []))
        self.assertEqual(sure(made, told, calls("elm.0"), call("oak.b")), ())

    def test_lists_are_new_ones(self):
        made, told = told_book(3, 4), rules("b a")
        found = why(made, told, calls("a.0 b.0"), call("a.x"))
        kept = copy.deepcopy(found)
        found[2].clear()
        found[3].clear()
        self.assertEqual(why(made, told, calls("a.0 b.0"), call("a.x")), kept)
        # Both are [] here, and yet not one list.
        found = why(told_book(None), rules("a"), calls("a.0"), call("a.x"))
        found[2].append(1)
        self.assertEqual(found[3], [])


class Sure(unittest.TestCase):
    def told(self, word, trust, worths, names):
        """That these houses make sure what is shown of what the houses a, b, .. tell."""
        made = told_book(*worths)
        for name in "abcd"[:len(worths)]:
            found = sure(made, rules(" ".join(trust), f"a.x={word}"), WHOLE[:len(worths)], (name, "x"))
            self.assertIsInstance(found, tuple)
            self.assertEqual(found, tuple(names))

    def test_first(self):
        self.told("first", "abc", (1, 2, 3), "a")
        self.told("first", "cab", (1, 2, 3), "c")
        self.told("first", "cab", (1, 2, None), "ac")
        self.told("first", "cba", (1, None, None), "abc")
        self.told("first", "bac", (1, 1, 1), "b")

    def test_greatest_and_least(self):
        self.told("greatest", "abc", (1, 2, "x"), "abc")
        self.told("least", "abc", (1, 2, "x"), "abc")
        self.told("greatest", "abc", (5, None, None), "abc")

    def test_ends_are_sure_by_one(self):
        self.told("greatest", "abc", (1, LAST, 3), "b")
        self.told("greatest", "cab", (1, LAST, LAST), "b")
        self.told("least", "abc", (1, 2, FIRST), "c")
        self.told("least", "cba", (FIRST, FIRST, FIRST), "a")

    def test_near_and_wrong_ends_are_not(self):
        self.told("greatest", "abc", (1, "zzzzzzzy", 3), "abc")
        self.told("greatest", "abc", (1, "zzzzzzz", 3), "abc")
        self.told("greatest", "abc", (10 ** 6, 10 ** 6, 3), "abc")
        self.told("greatest", "ab", (FIRST, FIRST), "ab")
        self.told("least", "abc", (1, 2, FIRST + 1), "abc")
        self.told("least", "abc", ("a", "b", "a"), "abc")
        self.told("least", "ab", (LAST, LAST), "ab")

    def test_ends_that_are_not_asked_for(self):
        for worth in ENDS:
            self.told("most", "abc", (worth, worth, worth), "ab")
            self.told("only", "abc", (worth, worth, worth), "abc")
        self.told("greatest", "abc", (FIRST, LAST, FIRST), "b")
        self.told("least", "abc", (LAST, LAST, FIRST), "c")
        for worth in ENDS:
            self.told("first", "ba", (worth, None), "ab")

    def test_most(self):
        # The others may tell 2 as often, but a is first in trust.
        self.told("most", "abcd", (1, 1, 1, 2), "ab")
        self.told("most", "dabc", (1, 1, 1, 2), "abc")
        self.told("most", "abcd", (1, 1, 1, 1), "ab")
        self.told("most", "dcba", (1, 1, 1, 1), "ad")
        self.told("most", "abc", (1, 1, 2), "ab")
        self.told("most", "abc", (1, 1, 1), "ab")
        self.told("most", "abc", (1, 2, 3), "abc")
        self.told("most", "ab", (1, 1), "a")
        self.told("most", "ba", (1, 1), "b")
        self.told("most", "ab", (1, 2), "a")

    def test_only(self):
        self.told("only", "abc", (4, 4, None), "abc")
        self.told("only", "abc", (4, 4, 4), "abc")
        self.told("only", "a", (4,), "a")

    def test_only_that_chooses_none_is_sure_by_two(self):
        self.told("only", "abcd", (4, 4, 5, 5), "ac")
        self.told("only", "dcba", (None, 4, 4, 5), "bd")
        self.told("only", "ab", (0, "x"), "ab")

    def test_nothing_told_needs_all_that_could_tell(self):
        for word in WORDS:
            self.told(word, "bac", (None, None, None), "abc")
            self.told(word, "a", (None,), "a")

    def test_houses_that_never_tell_are_never_needed(self):
        # b has no column of the kind; c has one but no row in the thing.
        houses = (("a", table("x", r0=(3,))), ("b", table("y", r0=(3,))), ("c", table("x", r9=(3,))),
                  ("d", table("x", r0=(None,))))
        made = book(houses, "a.x-c.x c.x-d.x", (), "a.0-b.0 b.0-d.0")
        thing = calls("a.0 b.0 d.0")
        for word in ("greatest", "least", "only"):
            self.assertEqual(sure(made, rules("b c d a", f"a.x={word}"), thing, call("c.x")), ("a", "d"))
        for word in ("first", "most"):
            self.assertEqual(sure(made, rules("b c d a", f"a.x={word}"), thing, call("c.x")), ("a", "d"))
            self.assertEqual(sure(made, rules("b c a d", f"a.x={word}"), thing, call("c.x")), ("a",))
        self.assertEqual(sure(made, rules("b c a d"), thing, call("b.y")), ("b",))
        self.assertEqual(sure(made, rules("b c a d"), calls("c.9"), call("b.y")), ())
        self.assertEqual(sure(made, rules("b c a d"), calls("c.9"), call("d.x")), ("c",))


class Refused(unittest.TestCase):
    MADE = book((("elm", table("a b", r0=(1, 2), r1=(3, 4))), ("oak", table("a", r0=(1,), r1=(2,), r2=(3,)))),
                "elm.a-oak.a", (), "elm.0-oak.1 elm.1-oak.0")
    THING = calls("elm.0 oak.1")
    COLUMN = call("elm.a")

    def refused(self, error, thing, column, made=MADE):
        for ask in (why, sure):
            with self.assertRaises(error) as caught:
                ask(made, rules("elm oak"), thing, column)
            self.assertIsInstance(caught.exception, PoolError)
        return caught.exception

    def test_things_that_are_there(self):
        for thing in ("elm.0 oak.1", "elm.1 oak.0", "oak.2"):
            self.assertEqual(len(why(self.MADE, rules("elm oak"), calls(thing), self.COLUMN)), 4)
            self.assertIsInstance(sure(self.MADE, rules("elm oak"), calls(thing), self.COLUMN), tuple)

    def test_things_that_are_none(self):
        for thing in ("", "elm.0", "oak.1", "elm.0 oak.0", "elm.0 elm.1 oak.0 oak.1", "oak.1 elm.0", "oak.2 oak.2",
                      "elm.0 oak.1 oak.2", "oak.3", "fir.0", "elm.a"):
            self.refused(NoThing, calls(thing), self.COLUMN)

    def test_things_spoilt(self):
        self.refused(NoThing, [("elm", 0), ("oak", 1)], self.COLUMN)
        self.refused(NoThing, (["elm", 0], ("oak", 1)), self.COLUMN)
        self.refused(NoThing, (("elm", 0), ["oak", 1]), self.COLUMN)
        self.refused(NoThing, ("oak", 2), self.COLUMN)
        self.refused(NoThing, ((("oak", 2),),), self.COLUMN)
        self.refused(NoThing, (("oak", 2, 2),), self.COLUMN)
        # A truth is no id, though to Python it equals one.
        self.refused(NoThing, (("elm", False), ("oak", True)), self.COLUMN)
        self.refused(NoThing, (("elm", False), ("oak", 1)), self.COLUMN)
        self.refused(NoThing, (("elm", 0), ("oak", True)), self.COLUMN)

    def test_columns_that_are_none(self):
        for column in ("elm.c", "oak.b", "fir.a", "elm.0", "oak.1"):
            self.refused(NoKind, self.THING, call(column))
        for column in ("elm", "a", ("elm",), ("elm", "a", "a"), ["elm", "a"], (("elm", "a"),), ("a", "elm")):
            self.refused(NoKind, self.THING, column)

    def test_anything(self):
        for thing in ANYTHING:
            self.refused(NoThing, thing, self.COLUMN)
            self.refused(NoThing, (thing,), self.COLUMN)
            self.refused(NoThing, (("elm", 0), thing), self.COLUMN)
            self.refused(NoKind, self.THING, ("elm", thing))
            if thing not in ("elm", "oak"):
                self.refused(NoKind, self.THING, (thing, "a"))
            # A stray 0 is just right there; a stray False is not, though it equals 0.
            if repr(thing) != "0":
                self.refused(NoThing, (("elm", thing), ("oak", 1)), self.COLUMN)
            self.refused(NoKind, self.THING, thing)

    def test_no_thing_ahead_of_no_kind(self):
        self.refused(NoThing, calls("elm.0"), call("elm.c"))
        self.refused(NoThing, None, None)

    def test_odd_ahead_of_all(self):
        odd_thing = book(self.MADE[0], "elm.a-oak.a", (), "elm.0-oak.1 elm.0-oak.2")
        odd_kind = book(self.MADE[0], "elm.a-oak.a elm.b-oak.a", (), "elm.0-oak.1")
        both = book(self.MADE[0], "elm.a-oak.a elm.b-oak.a", (), "elm.0-oak.1 elm.0-oak.2")
        kind = "elm.a elm.b oak.a"
        for made, what in ((odd_thing, "elm.0 oak.1 oak.2"), (odd_kind, kind), (both, kind)):
            for thing in (calls("elm.1"), calls("elm.0 oak.1 oak.2"), None, ()):
                for column in (self.COLUMN, call("elm.c"), None):
                    self.assertEqual(self.refused(Odd, thing, column, made).what, calls(what))

    def test_nothing_handed_in_is_changed(self):
        made, told = copy.deepcopy(self.MADE), rules("oak elm", "elm.a=most")
        kept = copy.deepcopy(told)
        for ask in (why, sure):
            ask(made, told, self.THING, self.COLUMN)
        self.assertEqual((made, told), (self.MADE, kept))
        thing, column = [["elm", 0], ["oak", 1]], ["elm", "a"]
        self.refused(NoThing, thing, column)
        self.refused(NoKind, self.THING, column)
        self.assertEqual((thing, column), ([["elm", 0], ["oak", 1]], ["elm", "a"]))


class ByTheWords(unittest.TestCase):
    """Books made by chance (always the same), each answer found again by trying all that may be."""

    def tried(self, word, trust, told):
        """The first of the fewest houses, by trying lot by lot all worths that matter of all other houses."""
        shown = shown_by_words(word, trust, told)
        # Two numbers and two names that nobody tells stand for all others.
        worths = set(told.values()) | {None, FIRST, LAST, 77, 78, "new", "old"}
        for many in range(len(told) + 1):
            for lot in itertools.combinations(sorted(told), many):
                free = [name for name in told if name not in lot]
                kept = {name: told[name] for name in lot}
                tries = itertools.product(worths, repeat=len(free))
                if all(shown_by_words(word, trust, {**kept, **dict(zip(free, guess))}) == shown for guess in tries):
                    return lot

    def test_each_lot_of_told_worths(self):
        sizes = {word: set() for word in WORDS}
        chance = random.Random(12)
        for many in (1, 2, 3, 4):
            trust = tuple(chance.sample("abcd"[:many], many))
            for worths in itertools.product((None, 1, "x", LAST, FIRST)[:5 if many < 4 else 3], repeat=many):
                made = told_book(*worths)
                told = dict(zip("abcd", worths))
                for word in WORDS:
                    found = sure(made, rules(" ".join(trust), f"a.x={word}"), WHOLE[:many], ("a", "x"))
                    self.assertEqual(found, self.tried(word, trust, told), (word, trust, told))
                    sizes[word].add(len(found))
        self.assertEqual(sizes, {"first": {1, 2, 3, 4}, "greatest": {1, 2, 3, 4}, "least": {1, 2, 3, 4},
                                 "most": {1, 2, 3, 4}, "only": {1, 2, 3, 4}})

    def test_books(self):
        chance = random.Random(13)
        cells = 0
        for _ in range(120):
            made = sound_book(chance)
            told = chance_rules(chance, made)
            all_kinds = kinds(made[0], made[1])
            for thing, row in one_table(made, told):
                for kind, worth in zip(all_kinds, row):
                    self.led_back(made, told, thing, kind, worth, chance.choice(kind))
                    cells += len(thing) > 1
        self.assertTrue(cells > 200, cells)

    def led_back(self, made, told, thing, kind, worth, column):
        own = {name: (name, part) for name, part in kind}
        worths = told_worths(made[0], kind)
        speakers = {row[0]: worths.get(row) for row in thing if row[0] in own}
        found = why(made, told, thing, column)
        self.assertEqual(found[0], worth)
        self.assertEqual(found[1], ([word for called, word in told[1] if called in kind] or ["first"])[0])
        tellers = sorted([row for row in thing if row in worths])
        self.assertEqual(found[2], [(row, own[row[0]]) for row in tellers if worths[row] == worth])
        self.assertEqual(found[3], [(row, own[row[0]]) for row in tellers if worths[row] != worth])
        names = sure(made, told, thing, column)
        self.assertTrue(set(names) <= set(speakers))
        if len(speakers) < 4:
            self.assertEqual(names, self.tried(found[1], told[0], speakers))
