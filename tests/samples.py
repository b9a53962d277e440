"""Values that several tests use: those of "Examples" in the document, and values of wrong kinds."""

from dealtrows.ask.queries import Clause, Query
from dealtrows.base.answers import Answer
from dealtrows.base.databases import Database
from dealtrows.base.schemas import Schema
from dealtrows.deal.cases import Case
from dealtrows.deal.placements import Placement
from dealtrows.errors import DealError, MissingRow, NoNodes, UnknownName

SIXTY = 10 ** 60 - 1
SIXTY_ONE = 10 ** 60
EIGHTY = 10 ** 80 - 1
TWENTY = 10 ** 20 - 1
TWENTY_ONE = 10 ** 20

SHOP = Schema(
    {"cus": ("code", "town"), "item": ("code", "price"), "ord": ("code", "item", "no")},
    keys={"cus": (("code",),), "item": (("code",),), "ord": (("no",),)},
    references={"oc": ("ord", ("code",), "cus", ("code",)), "oi": ("ord", ("item",), "item", ("code",))})
TOWNS = Query(SHOP, "distinct", Clause(
    (("cus", ("c", "t")), ("item", ("i", 7)), ("ord", ("c", "i", "n"))), head=("t",)))
PRICES = Query(SHOP, "count", Clause((("item", ("i", "p")),), head=("p",)))
DAY = Database(SHOP, {"cus": ((1, 5),), "item": ((9, 7),), "ord": ((1, 9, 3),)})
NEAR = Placement(SHOP, cus=(("by", "s", ("code",)),), item=(("all",),), ord=(("with", "oc"),))
FAR = NEAR.with_rules("item", ("by", "t", ("code",)))
SPLIT = Case(FAR, DAY, nodes=2, spreads={("s", (1,)): 0, ("t", (9,)): 1})
IDLE = Clause((("cus", ("c", "t")), ("item", ("i", "p"))), absences=(("ord", ("c", "i", "n")),), head=("c",))


def shop_again():
    """A schema that equals SHOP and is another object."""
    return Schema(SHOP.tables, keys={table: SHOP.keys_of(table) for table in SHOP.tables}, references=SHOP.references)


def deep(depth):
    """Tuples, lists and dicts nested so deep."""
    value = 1
    for level in range(depth):
        value = ((value,), [value], {"a": value})[level % 3]
    return value


def odd_values():
    """Values of all kinds, none of which is a name, an integer, a row, a head or a dict of them."""
    return [
        None, True, False, "", "two words", "Upper", "ninechars", "a\n", "a" * 4000, "~",
        [], [1], ["a"], [("a",)], [[]], (True,), (False, 1), (1, True), (None,), ("A",), ((),), (1, 2, "a"), ([],),
        ({},), (1, [2]), ({1: 2}, 3), SIXTY_ONE, -SIXTY_ONE, 10 ** 99, (SIXTY_ONE,), (1, -SIXTY_ONE),
        {True: 1}, {(True,): 1}, {"A": 1}, {None: None}, {(1, (2,)): [3]}, {1: {2: {3: 4}}},
        deep(7), deep(8), DealError("x"), UnknownName([1]), MissingRow(()), (DealError("x"),), {DealError("x"): 1},
        Answer("count"), (Answer("count"),), [SHOP], SHOP, DAY, TOWNS, IDLE, (DAY, TOWNS), {"a": IDLE}, {1: (SHOP,)},
        NEAR, (FAR,), SPLIT, [SPLIT], {"a": SPLIT},
    ]


def raised(call, *given, **named):
    """The error that a call raises, or None."""
    try:
        call(*given, **named)
    except (DealError, KeyError, LookupError, NoNodes, OverflowError, RuntimeError) as error:
        return error
    return None


def told_error(call, *given, **named):
    """The class of the error that a call raises and what it keeps, or None."""
    error = raised(call, *given, **named)
    return None if error is None else (error.__class__, *vars(error).values())


def case_with(placement, rows, nodes, places):
    """The case with these rows, places that are not told being node 0."""
    database = Database(placement.schema, rows)
    wanted = [place for place in placement.places_in(database) if place != ("all",)]
    return Case.of_places(placement, database, nodes, {place: places.get(place, 0) for place in wanted})


def odd_but(*kinds):
    """The odd values that are no objects of these classes."""
    return [value for value in odd_values() if not isinstance(value, kinds)]
