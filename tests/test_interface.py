"""The names of the interface: each stands in the module under whose heading the document lists it."""

import importlib
import inspect
import unittest

INTERFACE = {
    "dealtrows.errors": ("DealError", "InvalidSchema", "InvalidDatabase", "InvalidClause", "InvalidQuery", "InvalidRule",
                         "InvalidPlacement", "InvalidCase", "InvalidRow", "InvalidAnswer", "InvalidOperation",
                         "ParseError(line)", "BrokenConstraint(constraint)", "Rejected(reason)", "UnknownName(name)",
                         "MissingRow(row)", "NothingToUndo(many)", "TooMany(limit)", "InvalidNumber(value)",
                         "NoNodes(value)"),
    "dealtrows.base.names": ("is_name(value)", "is_integer(value)", "is_row(value)"),
    "dealtrows.base.answers": ("Answer(form, numbers=None)", "combined(form, *answers)"),
    "dealtrows.base.schemas": ("Schema(tables, *, keys=None, references=None)",),
    "dealtrows.base.databases": ("is_rows(schema, value)", "first_broken(schema, rows)", "Database(schema, rows=None)"),
    "dealtrows.ask.queries": ("Clause(parts, *, tests=(), absences=(), head=(), summed=None)",
                              "Query(schema, form, *clauses)"),
    "dealtrows.ask.matches": ("matches(query, index, rows)", "open_matches(query, index, rows)",
                              "is_match(query, index, rows, value)", "match_head(query, index, match)",
                              "match_rows(query, index, match)", "blocking_rows(query, index, rows, match)",
                              "witnesses(query, rows, head)", "answer_on(query, rows)"),
    "dealtrows.deal.placements": ("Placement(schema, **rules)",),
    "dealtrows.deal.cases": ("Case(placement, database, *, nodes, spreads=None, lone=None)",
                             "is_counterexample(placement, query, value)"),
    "dealtrows.decide.patterns": ("Pattern", "patterns(query)", "pattern_of(query, clause, database, match)",
                                  "is_pattern(query, value)"),
    "dealtrows.decide.smallcases": ("ties(placement, query, rows)", "layouts(places)", "small_cases(placement, query)",
                                    "is_small_case(placement, query, value)"),
    "dealtrows.decide.verdicts": ("certificate_of(placement, query)", "counterexample_of(placement, query)",
                                  "decision(placement, query)", "is_certificate(placement, query, value)",
                                  "is_decision(placement, query, value)", "is_right_for(placement, query)",
                                  "right_parts(placement, query)", "faults(case, query)", "Verdict(placement, query)"),
    "dealtrows.decide.colocated": ("co_location(placement, query, pattern)",
                                   "is_co_location(placement, query, pattern, value)", "co_locations(placement, query)",
                                   "is_co_location_table(placement, query, value)", "routes(placement, query)",
                                   "is_route(placement, query, value)", "stranded(placement, query, route)",
                                   "asked(case, route)"),
    "dealtrows.decide.tight": ("subcase(case, *pairs)", "is_subcase(case, value)", "is_tight(query, value)",
                               "tightened(query, case)", "small_case_of(query, case)"),
    "dealtrows.more.gaps": ("gaps(case, query)", "basis_of(rows)", "gap_basis(placement, query)",
                            "corrections(placement, query)", "error_step(placement, query, weights)",
                            "unbalanced(placement, query, weights)", "gap_certificate(placement, query)",
                            "is_gap_certificate(placement, query, value)"),
    "dealtrows.more.checks": ("key_check(schema, table, columns)", "reference_check(schema, name)",
                              "clause_check(schema, clause)", "relaxed(placement, constraint)",
                              "is_noticed(placement, constraint)", "unnoticed(placement, constraint)",
                              "noticed(placement)"),
    "dealtrows.more.choices": ("selections(schema, choices)", "cheapest(schema, choices, *queries)",
                               "choice_certificate(schema, choices, *queries)",
                               "is_choice_certificate(schema, choices, queries, value)",
                               "further_rules(placement, query, offers)"),
    "dealtrows.live.store": ("Store(placement, *, nodes=1, spreads=None)",),
    "dealtrows.live.guarded": ("Guard", "GuardedStore(placement, *, nodes=1, spreads=None)"),
    "dealtrows.text.texts": ("write_schema(schema)", "write_query(query)", "write_placement(placement)",
                             "write_database(database)", "write_case(case)", "read_schema(text)", "read_query(schema, text)",
                             "read_placement(schema, text)", "read_database(schema, text)", "read_case(placement, text)"),
    "dealtrows.text.shell": ("Shell(schema, placement, *, nodes=1)",),
}
CONSTANTS = {
    "dealtrows.base.schemas": {"MAX_TABLES": 5, "MAX_COLUMNS": 4, "MAX_KEYS": 2, "MAX_REFERENCES": 4},
    "dealtrows.base.databases": {"MAX_ROWS": 100},
    "dealtrows.ask.queries": {"MAX_PARTS": 3, "MAX_TESTS": 4, "MAX_ABSENCES": 2, "MAX_HEAD": 3, "MAX_CLAUSES": 3,
                              "MAX_NAMED": 4},
    "dealtrows.ask.matches": {"MAX_MATCHES": 2000},
    "dealtrows.deal.placements": {"MAX_RULES": 2},
    "dealtrows.deal.cases": {"MAX_NODES": 9},
    "dealtrows.decide.patterns": {"MAX_SYMBOLS": 7, "MAX_CLOSURE": 8},
    "dealtrows.decide.smallcases": {"MAX_PLACES": 6, "MAX_CASES": 2000},
    "dealtrows.decide.colocated": {"MAX_ROUTE_PLACES": 10},
    "dealtrows.decide.tight": {"MAX_BLOCKING": 8},
    "dealtrows.more.choices": {"MAX_SELECTIONS": 64, "MAX_OFFERS": 6},
    "dealtrows.live.guarded": {"MAX_PLEDGES": 4},
}
PROPERTY, METHOD, CLASS_METHOD, STATIC = "property", "method", "classmethod", "static"
MEMBERS = {
    ("dealtrows.base.answers", "Answer"): {
        PROPERTY: ("form", "heads"), METHOD: ("pairs()",), CLASS_METHOD: ("of_heads(heads)",), STATIC: (),
        "own": ("iter", "getitem", "contains", "len", "bool", "eq", "str", "add", "sub", "neg", "or", "and", "xor")},
    ("dealtrows.base.schemas", "Schema"): {
        PROPERTY: ("tables", "references"), CLASS_METHOD: (), STATIC: (),
        METHOD: ("columns_of(table)", "keys_of(table)", "references_of(table)", "is_row_of(table, value)",
                 "leads_to(table, other)", "without_key(table, columns)", "without_reference(name)"),
        "own": ("contains", "len", "eq", "str")},
    ("dealtrows.base.databases", "Database"): {
        PROPERTY: ("schema", "rows"), CLASS_METHOD: ("empty(schema)",), STATIC: (),
        METHOD: ("pairs()", "parent_of(reference, row)", "children_of(table, row)", "closure_of(*pairs)",
                 "with_row(table, row)", "without_row(table, row)", "is_within(other)"),
        "own": ("iter", "getitem", "contains", "len", "eq", "str", "or", "and", "sub")},
    ("dealtrows.ask.queries", "Clause"): {
        PROPERTY: ("parts", "tests", "absences", "head", "summed", "variables", "free"), CLASS_METHOD: (), STATIC: (),
        METHOD: ("with_head(head)", "with_tests(*tests)", "with_absence(table, terms)", "without_absences()",
                 "renamed(names)"),
        "own": ("eq", "str")},
    ("dealtrows.ask.queries", "Query"): {
        PROPERTY: ("schema", "form", "clauses", "integers", "width"), CLASS_METHOD: ("of(schema, form, clauses)",),
        STATIC: ("is_form(value)",), METHOD: ("only(index)",),
        "own": ("call", "add", "len", "iter", "contains", "eq", "str")},
    ("dealtrows.deal.placements", "Placement"): {
        PROPERTY: ("schema", "rules", "spreads"), CLASS_METHOD: ("of(schema, rules)",),
        STATIC: ("is_rule(schema, table, value)",),
        METHOD: ("with_rules(table, *rules)", "places_of(database, table, row)", "places_in(database)",
                 "common_places(database, *pairs)", "is_within(other)"),
        "own": ("getitem", "iter", "len", "eq", "str")},
    ("dealtrows.deal.cases", "Case"): {
        PROPERTY: ("placement", "database", "nodes", "spreads", "lone", "places"), STATIC: (),
        CLASS_METHOD: ("of_places(placement, database, nodes, places)", "single(placement, database)"),
        METHOD: ("nodes_of(table, row)", "rows_at(node)", "whole(query)", "local(query, node)", "difference(query)",
                 "is_right(query)", "with_nodes(nodes)"),
        "own": ("call", "len", "eq", "str")},
    ("dealtrows.decide.patterns", "Pattern"): {
        PROPERTY: ("clause", "match", "database", "fresh"), METHOD: (), CLASS_METHOD: (), STATIC: (), "own": ("eq", "str")},
    ("dealtrows.decide.verdicts", "Verdict"): {
        PROPERTY: ("placement", "query", "certificate", "counterexample", "kinds"), METHOD: ("is_right()",),
        CLASS_METHOD: (), STATIC: (), "own": ("bool", "len", "contains", "eq", "str")},
    ("dealtrows.live.store", "Store"): {
        PROPERTY: ("placement", "nodes", "spreads", "database", "moves"), CLASS_METHOD: (), STATIC: (),
        METHOD: ("add(table, row, *, node=None)", "remove(table, row)", "put(table, *rules)", "resize(nodes)", "case()",
                 "ask(query)", "undo(*, many=1)", "redo(*, many=1)", "group()", "grouped(call)", "trial()", "during(call)",
                 "twin()"),
        "own": ("iadd", "isub", "getitem", "setitem", "iter", "call", "contains", "len", "eq")},
    ("dealtrows.live.guarded", "Guard"): {
        PROPERTY: (), METHOD: (), CLASS_METHOD: (), STATIC: ("check(placement, query)",), "own": ()},
    ("dealtrows.live.guarded", "GuardedStore"): {
        PROPERTY: ("pledges",), CLASS_METHOD: (), STATIC: (), "own": ("init", "call"),
        METHOD: ("ask(query)", "pledge(name, query)", "release(name)", "put(table, *rules)")},
    ("dealtrows.text.shell", "Shell"): {
        PROPERTY: (), METHOD: ("store()", "run(line)"), CLASS_METHOD: (), STATIC: (), "own": ("call",)},
}


class InterfaceTest(unittest.TestCase):
    def test_functions_and_classes(self):
        for module_name, listed in INTERFACE.items():
            module = importlib.import_module(module_name)
            for text in listed:
                name, _, rest = text.partition("(")
                found = getattr(module, name)
                self.assertEqual(found.__module__, module_name, text)
                if rest:
                    self.assertEqual(f"{name}{inspect.signature(found)}", text)

    def test_constants(self):
        for module_name, listed in CONSTANTS.items():
            module = importlib.import_module(module_name)
            for name, value in listed.items():
                self.assertEqual(getattr(module, name), value)

    def test_generators(self):
        for module_name, names in (("dealtrows.ask.matches", ("matches", "open_matches", "witnesses")),
                                   ("dealtrows.decide.patterns", ("patterns",)),
                                   ("dealtrows.decide.smallcases", ("layouts", "small_cases")),
                                   ("dealtrows.more.choices", ("selections",))):
            module = importlib.import_module(module_name)
            for name in names:
                self.assertTrue(inspect.isgeneratorfunction(getattr(module, name)), name)

    def test_members(self):
        for (module_name, class_name), kinds in MEMBERS.items():
            own = vars(getattr(importlib.import_module(module_name), class_name))
            for name in kinds[PROPERTY]:
                self.assertIsInstance(own[name], property, name)
            for name in kinds["own"]:
                self.assertIn(f"__{name}__", own)
            for kind, held in ((METHOD, None), (CLASS_METHOD, classmethod), (STATIC, staticmethod)):
                for text in kinds[kind]:
                    self.check_member(own, text, held)

    def check_member(self, own, text, held):
        name = text.partition("(")[0]
        found = own[name]
        if held is not None:
            self.assertIsInstance(found, held, text)
            found = found.__func__
        signature = inspect.signature(found)
        parameters = list(signature.parameters.values())
        told = signature.replace(parameters=parameters if held is staticmethod else parameters[1:])
        self.assertEqual(f"{name}{told}", text)


if __name__ == "__main__":
    unittest.main()
