"""Promises 2, 3 and 14: what is turned from one book to another."""

import copy
import random
import unittest

from poolbook.errors import Odd, PoolError
from poolbook.tables import one_table
from poolbook.ties import odd_things, things
from poolbook.turns import turned
from samples import bare, book, calls, chance_rules, rules, sound_book, table

LIKES = "elm.code-fir.code elm.code-oak.mark elm.size-oak.size"
KEYS = ["elm.code"]
TOLD = rules("oak fir elm")


def made_of(elm, fir, oak, ties="", cuts=""):
    """A book of three houses with these rows, of two kinds."""
    houses = (("elm", table("code size", **elm)), ("fir", table("code", **fir)), ("oak", table("mark size", **oak)))
    return book(houses, LIKES, KEYS, ties, cuts)


ELM = {"r0": (1, "red"), "r1": (2, 5)}
FIR = {"r3": (1,), "r4": (9,)}
OAK = {"r0": (1, "blue"), "r7": (2, None)}
START = made_of(ELM, FIR, OAK)
FIRST, SECOND, ALONE = calls("elm.0 fir.3 oak.0"), calls("elm.1 oak.7"), calls("fir.4")


class Turned(unittest.TestCase):
    def told(self, other, expected, more=TOLD):
        """That this is turned from the start to another book, and the other way round likewise."""
        found = turned(START, TOLD, other, more)
        self.assertIsInstance(found, list)
        self.assertEqual(found, expected)
        back = [(thing, after, before) for thing, before, after in expected]
        self.assertEqual(turned(other, more, START, TOLD), back)

    def test_the_start(self):
        self.assertEqual(one_table(START, TOLD), [(FIRST, (1, "blue")), (SECOND, (2, 5)), (ALONE, (9, None))])

    def test_books_alike(self):
        self.told(START, [])
        self.told(copy.deepcopy(START), [])

    def test_a_row_changed_that_stays_in_its_thing(self):
        self.told(made_of({**ELM, "r1": (2, 6)}, FIR, OAK), [(SECOND, (2, 5), (2, 6))])
        self.told(made_of(ELM, FIR, {**OAK, "r0": (1, None)}), [(FIRST, (1, "blue"), (1, "red"))])

    def test_a_row_changed_that_is_not_shown(self):
        self.told(made_of({**ELM, "r0": (1, "green")}, FIR, OAK), [])

    def test_a_worth_that_becomes_none(self):
        self.told(made_of({**ELM, "r1": (2, None)}, FIR, OAK), [(SECOND, (2, 5), (2, None))])

    def test_a_row_changed_so_that_a_thing_parts(self):
        self.told(made_of(ELM, FIR, {**OAK, "r7": (None, None)}),
                  [(calls("elm.1"), None, (2, 5)), (SECOND, (2, 5), None), (calls("oak.7"), None, (None, None))])

    def test_a_row_changed_so_that_things_join(self):
        self.told(made_of(ELM, {**FIR, "r4": (2,)}, OAK),
                  [(calls("elm.1 fir.4 oak.7"), None, (2, 5)), (SECOND, (2, 5), None), (ALONE, (9, None), None)])

    def test_a_row_that_goes_from_thing_to_thing(self):
        self.told(made_of(ELM, {"r3": (2,), "r4": (9,)}, OAK),
                  [(FIRST, (1, "blue"), None), (calls("elm.0 oak.0"), None, (1, "blue")),
                   (calls("elm.1 fir.3 oak.7"), None, (2, 5)), (SECOND, (2, 5), None)])

    def test_a_row_put_in(self):
        self.told(made_of({**ELM, "r5": (7, 7)}, FIR, OAK), [(calls("elm.5"), None, (7, 7))])
        self.told(made_of({**ELM, "r5": (9, 7)}, FIR, OAK),
                  [(calls("elm.5 fir.4"), None, (9, 7)), (ALONE, (9, None), None)])

    def test_a_row_put_in_that_tells_nothing(self):
        # It is a thing of the second book alone, though all that is shown of it is None.
        self.told(made_of({**ELM, "r5": (None, None)}, FIR, OAK), [(calls("elm.5"), None, (None, None))])

    def test_a_row_taken_out(self):
        self.told(made_of(ELM, {"r3": (1,)}, OAK), [(ALONE, (9, None), None)])
        self.told(made_of({"r0": (1, "red")}, FIR, OAK),
                  [(SECOND, (2, 5), None), (calls("oak.7"), None, (2, None))])

    def test_a_row_that_held_a_thing_together(self):
        chain = bare("a.0 b.0 c.0")
        one = book(chain, "", (), "a.0-b.0 b.0-c.0")
        other = book((chain[0], ("b", (("a",), ())), chain[2]))
        nothing = (None, None, None)
        self.assertEqual(turned(one, rules("a b c"), other, rules("a b c")),
                         [(calls("a.0"), None, nothing), (calls("a.0 b.0 c.0"), nothing, None),
                          (calls("c.0"), None, nothing)])

    def test_ties_and_cuts(self):
        self.told(made_of(ELM, FIR, OAK, "elm.1-fir.4"),
                  [(calls("elm.1 fir.4 oak.7"), None, (2, 5)), (SECOND, (2, 5), None), (ALONE, (9, None), None)])
        self.told(made_of(ELM, FIR, OAK, "", "elm.1-oak.7"),
                  [(calls("elm.1"), None, (2, 5)), (SECOND, (2, 5), None), (calls("oak.7"), None, (2, None))])
        # The rows hang together by others still.
        self.told(made_of(ELM, FIR, OAK, "", "elm.0-oak.0"), [])

    def test_other_rules(self):
        self.told(START, [(FIRST, (1, "blue"), (1, "red"))], rules("elm oak fir"))
        self.told(START, [(FIRST, (1, "blue"), (1, None))], rules("oak fir elm", "elm.size=only"))
        self.told(START, [], rules("fir oak elm", "elm.code=most"))

    def test_no_rows_at_all(self):
        empty = made_of({}, {}, {})
        self.told(empty, [(FIRST, (1, "blue"), None), (SECOND, (2, 5), None), (ALONE, (9, None), None)])
        self.assertEqual(turned(empty, TOLD, empty, TOLD), [])

    def test_things_rise_where_rows_do_not_compare(self):
        one = book(bare("a.2 a.10"))
        other = book((("a", table("a", r2=("x",), r10=(5,))),))
        self.assertEqual(turned(one, rules("a"), other, rules("a")),
                         [(calls("a.2"), (None,), ("x",)), (calls("a.10"), (None,), (5,))])

    def test_lists_are_new_ones(self):
        other = made_of(ELM, {"r3": (1,)}, OAK)
        turned(START, TOLD, other, TOLD).clear()
        self.told(other, [(ALONE, (9, None), None)])
        turned(START, TOLD, START, TOLD).append(1)
        self.told(START, [])

    def test_nothing_handed_in_is_changed(self):
        one, other, told = copy.deepcopy(START), made_of(ELM, {"r3": (2,)}, OAK), rules("elm fir oak", "elm.code=most")
        kept = copy.deepcopy((other, told))
        turned(one, told, other, told)
        self.assertEqual((one, (other, told)), (START, kept))


class Refused(unittest.TestCase):
    HOUSES = bare("a.0 a.1 b.0 b.1")
    SOUND = book(HOUSES)
    ODD = book(HOUSES, "", (), "a.0-b.0 a.0-b.1")
    OTHER_ODD = book(HOUSES, "", (), "a.0-b.0 a.1-b.0")

    def odd(self, one, other, what):
        with self.assertRaises(Odd) as caught:
            turned(one, rules("a b"), other, rules("b a"))
        self.assertIsInstance(caught.exception, PoolError)
        self.assertEqual(caught.exception.what, calls(what))

    def test_of_either_book(self):
        self.odd(self.ODD, self.SOUND, "a.0 b.0 b.1")
        self.odd(self.SOUND, self.ODD, "a.0 b.0 b.1")

    def test_of_the_first_book_ahead(self):
        self.odd(self.ODD, self.OTHER_ODD, "a.0 b.0 b.1")
        self.odd(self.OTHER_ODD, self.ODD, "a.0 a.1 b.0")

    def test_an_odd_kind(self):
        houses = (("a", table("a b", r0=(1, 1))), ("b", table("a", r0=(1,), r1=(1,))))
        odd_kind = book(houses, "a.a-b.a a.b-b.a")
        both = book(houses, "a.a-b.a a.b-b.a", (), "a.0-b.0 a.0-b.1")
        self.odd(odd_kind, both, "a.a a.b b.a")
        self.odd(both, odd_kind, "a.a a.b b.a")


class ByTheWords(unittest.TestCase):
    """Books made by chance (always the same), with a row changed, put in or taken out."""

    def changed(self, chance, made):
        """The book with another row at an id of a house, or without it, and the row's name."""
        houses = list(made[0])
        at = chance.randrange(len(houses))
        name, (columns, rows) = houses[at]
        number = chance.randrange(4)
        rows = {own: row for own, row in rows if own != number}
        links = [made[3], made[4]]
        if chance.random() < 0.7:
            rows[number] = tuple([chance.choice((1, 2, "x", None)) for _ in columns])
        else:
            links = [tuple([pair for pair in pairs if (name, number) not in pair]) for pairs in links]
        houses[at] = (name, (columns, tuple(sorted(rows.items()))))
        return (tuple(houses), made[1], made[2], links[0], links[1]), (name, number)

    def keyed(self, chance, made):
        """The book with a key, too, by which its rows may agree."""
        columns = [(name, column) for name, (own, _) in made[0] for column in own]
        return (made[0], made[1], ((chance.choice(columns),),), made[3], made[4])

    def test_books(self):
        chance = random.Random(31)
        seen = {"kept": 0, "changed": 0, "parted": 0, "new": 0}
        for _ in range(1500):
            one = sound_book(chance)
            if chance.random() < 0.5:
                one = self.keyed(chance, one)
            other, row = self.changed(chance, one)
            if odd_things(one) or odd_things(other):
                continue
            told, more = chance_rules(chance, one), chance_rules(chance, one)
            self.found_again(one, told, other, more)
            found = turned(one, told, other, told)
            self.found_again(one, told, other, told)
            holders = [thing for thing in things(one) + things(other) if row in thing]
            for thing, before, after in found:
                # It is a part of a thing that holds the row, or held it.
                self.assertTrue([holder for holder in holders if set(thing) <= set(holder)], (one, other, row))
                seen["changed"] += before is not None and after is not None
                seen["parted"] += after is None
                seen["new"] += before is None
            seen["kept"] += len(found) < len(things(one))
        self.assertTrue(min(seen.values()) > 50, seen)

    def found_again(self, one, told, other, more):
        """That turned is what the one tables say, either way round."""
        before, after = dict(one_table(one, told)), dict(one_table(other, more))
        every = [(thing, before.get(thing), after.get(thing)) for thing in sorted(set(before) | set(after))]
        expected = [line for line in every if line[1] != line[2]]
        self.assertEqual(turned(one, told, other, more), expected)
        self.assertEqual(turned(other, more, one, told), [(thing, new, old) for thing, old, new in expected])
