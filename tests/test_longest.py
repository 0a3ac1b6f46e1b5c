"""Promise 11 at the book at which why and sure took longest: each thing, each column, each word."""

import unittest

from poolbook.errors import NoKind, NoThing
from poolbook.houses import kinds
from poolbook.ties import things
from poolbook.whys import sure, why
from samples import ANYTHING, WORDS, book, call, calls, rules, table

HOUSES = (
    ("ann", table("a c d no", r0=(1, 2, 2, 2), r3=(1, None, "blue", 4), r6=("blue", "red", 1, 1))),
    ("bo", table("a c d no", r1=(1, 1, 1, None), r4=(2, 3, 1, 3), r8=(1, 2, "red", None))),
    ("cy", table("a b c d no", r2=(None, "red", None, "red", None), r5=(2, 3, 1, None, None),
                 r8=(2, 2, "blue", "blue", 2))),
    ("dee", table("a b c d no", r1=(1, None, 1, 2, 2), r3=("red", "red", 3, "red", 1), r6=(1, 1, 2, -197, 3))),
)
LIKES = ("ann.a-bo.a ann.a-cy.a ann.a-dee.a ann.c-dee.c ann.d-cy.d ann.d-dee.d ann.no-bo.no ann.no-cy.no "
         "ann.no-dee.no bo.a-cy.a bo.a-dee.a bo.c-cy.c")
BOOK = book(HOUSES, LIKES, ["ann.no"], "bo.4-dee.6")
TRUST = "dee bo cy ann"
KINDS = {
    "ann.a": "ann.a bo.a cy.a dee.a", "ann.c": "ann.c dee.c", "ann.d": "ann.d cy.d dee.d",
    "ann.no": "ann.no bo.no cy.no dee.no", "bo.c": "bo.c cy.c", "bo.d": "bo.d", "cy.b": "cy.b", "dee.b": "dee.b",
}

# For each thing and kind, word by word (or once, where all words tell the same), the worth shown, and the first letters
# of the houses that agree, of those that tell another worth, and of those that make it sure.
ANSWERS = {
    "ann.0 cy.8 dee.1": """
        ann.a: 1 ad/c/d, 2 c/ad/acd, 1 ad/c/acd, 1 ad/c/ad, - /acd/ac
        ann.c: 1 d/a/d, 2 a/d/ad, 1 d/a/ad, 1 d/a/d, - /ad/ad
        ann.d: 2 ad/c/d, blue c/ad/acd, 2 ad/c/acd, 2 ad/c/ad, - /acd/ac
        ann.no: 2 acd//d, 2 acd//acd, 2 acd//acd, 2 acd//ac, 2 acd//acd
        bo.c: blue c//c
        bo.d: - //
        cy.b: 2 c//c
        dee.b: - //d
    """,
    "ann.3": """
        ann.a: 1 a//a
        ann.c: - //a
        ann.d: blue a//a
        ann.no: 4 a//a
        bo.c: - //
        bo.d: - //
        cy.b: - //
        dee.b: - //
    """,
    "ann.6 dee.3": """
        ann.a: red d/a/d, red d/a/ad, blue a/d/ad, red d/a/d, - /ad/ad
        ann.c: 3 d/a/d, red a/d/ad, 3 d/a/ad, 3 d/a/d, - /ad/ad
        ann.d: red d/a/d, red d/a/ad, 1 a/d/ad, red d/a/d, - /ad/ad
        ann.no: 1 ad//d, 1 ad//ad, 1 ad//ad, 1 ad//d, 1 ad//ad
        bo.c: - //
        bo.d: - //
        cy.b: - //
        dee.b: red d//d
    """,
    "bo.1": """
        ann.a: 1 b//b
        ann.c: - //
        ann.d: - //
        ann.no: - //b
        bo.c: 1 b//b
        bo.d: 1 b//b
        cy.b: - //
        dee.b: - //
    """,
    "bo.4 dee.6": """
        ann.a: 1 d/b/d, 2 b/d/bd, 1 d/b/bd, 1 d/b/d, - /bd/bd
        ann.c: 2 d//d
        ann.d: -197 d//d
        ann.no: 3 bd//d, 3 bd//bd, 3 bd//bd, 3 bd//d, 3 bd//bd
        bo.c: 3 b//b
        bo.d: 1 b//b
        cy.b: - //
        dee.b: 1 d//d
    """,
    "bo.8": """
        ann.a: 1 b//b
        ann.c: - //
        ann.d: - //
        ann.no: - //b
        bo.c: 2 b//b
        bo.d: red b//b
        cy.b: - //
        dee.b: - //
    """,
    "cy.2": """
        ann.a: - //c
        ann.c: - //
        ann.d: red c//c
        ann.no: - //c
        bo.c: - //c
        bo.d: - //
        cy.b: red c//c
        dee.b: - //
    """,
    "cy.5": """
        ann.a: 2 c//c
        ann.c: - //
        ann.d: - //c
        ann.no: - //c
        bo.c: 1 c//c
        bo.d: - //
        cy.b: 3 c//c
        dee.b: - //
    """,
}


def read_worth(text):
    """A worth, or None for a dash."""
    if text == "-":
        return None
    return text if text.isalpha() else int(text)


def answers():
    """Each (thing, kind, word, worth, names that agree, that tell another one, that make it sure) of the list above."""
    for rows, lines in ANSWERS.items():
        for line in lines.strip().split("\n"):
            kind, cells = line.strip().split(": ")
            cells = cells.split(", ")
            for word, cell in zip(WORDS, cells * (len(WORDS) // len(cells))):
                worth, letters = cell.split(" ")
                names = [tuple([name for name, _ in HOUSES if name[0] in part]) for part in letters.split("/")]
                yield calls(rows), calls(KINDS[kind]), word, read_worth(worth), *names


class Longest(unittest.TestCase):
    def test_each_thing_column_and_word(self):
        asked = 0
        for thing, kind, word, worth, agreeing, others, names in answers():
            number, own = dict(thing), dict(kind)
            cells = [[((name, number[name]), (name, own[name])) for name in part] for part in (agreeing, others)]
            for column in kind:
                # The rule may call the kind by any of its columns, too.
                for called in kind:
                    told = (tuple(TRUST.split()), ((called, word),))
                    self.assertEqual(why(BOOK, told, thing, column), (worth, word, cells[0], cells[1]))
                    self.assertEqual(sure(BOOK, told, thing, column), names)
                asked += 1
        self.assertEqual(asked, 8 * 18 * 5)

    def test_the_list_has_all_things_and_kinds(self):
        self.assertEqual(things(BOOK), [calls(rows) for rows in ANSWERS])
        self.assertEqual(kinds(HOUSES, BOOK[1]), [calls(columns) for columns in KINDS.values()])

    def test_the_rules_that_took_longest(self):
        told = rules(TRUST, "ann.a=most ann.c=least cy.b=first")
        thing = calls("ann.0 cy.8 dee.1")
        agreeing = [calls("ann.0 ann.no"), calls("cy.8 cy.no"), calls("dee.1 dee.no")]
        self.assertEqual(why(BOOK, told, thing, call("dee.no")), (2, "first", agreeing, []))
        self.assertEqual(sure(BOOK, told, thing, call("dee.no")), ("dee",))
        self.assertEqual(sure(BOOK, told, thing, call("bo.a")), ("ann", "dee"))
        self.assertEqual(sure(BOOK, told, thing, call("dee.c")), ("ann", "dee"))

    def test_refusals(self):
        told = rules(TRUST)
        for ask in (why, sure):
            for stray in ANYTHING + [calls("ann.0 cy.8"), calls("ann.0 cy.8 dee.1 dee.1"), calls("cy.8 ann.0 dee.1"),
                                     (("ann", False), ("cy", 8), ("dee", True)), (("bo", True),)]:
                with self.assertRaises(NoThing):
                    ask(BOOK, told, stray, call("dee.no"))
            for stray in ANYTHING + [call("ann.b"), call("bo.1"), call("dee.nono"), ["dee", "no"], ("dee", ["no"])]:
                with self.assertRaises(NoKind):
                    ask(BOOK, told, calls("ann.0 cy.8 dee.1"), stray)
