"""Clauses and queries."""

from dealtrows.ask.absences import keep_rules
from dealtrows.ask.chains import Chain
from dealtrows.ask.joins import numbers_on
from dealtrows.ask.search import Search
from dealtrows.ask.terms import integers_in, is_term, is_test, is_variable
from dealtrows.ask.terms import renamed_parts, renamed_term, renamed_terms, renamed_tests
from dealtrows.ask.terms import terms_in_parts, terms_of_tests, variables_in
from dealtrows.base.answers import checked_answer
from dealtrows.base.databases import Database
from dealtrows.base.names import are_names, is_name, is_number
from dealtrows.base.schemas import check_schema
from dealtrows.errors import InvalidClause, InvalidDatabase, InvalidNumber, InvalidOperation, InvalidQuery

MAX_PARTS = 3
MAX_TESTS = 4
MAX_ABSENCES = 2
MAX_HEAD = 3
MAX_CLAUSES = 3
MAX_NAMED = 4
# The matches build on this file, so their limit cannot be imported from them.
_MATCH_LIMIT = 2000


def _are_tests(value):
    """Whether the value is a tuple of at most four tests."""
    if not isinstance(value, tuple) or len(value) > MAX_TESTS:
        return False
    for test in value:
        if not is_test(test):
            return False
    return True


def _is_head(value):
    return are_names(value) and len(value) <= MAX_HEAD


def _free_terms(terms, variables):
    """The free variables among the terms of an absence, as often as they stand there."""
    return [term for term in terms if is_variable(term) and term not in variables]


def _are_free_once(absences, variables):
    """Whether no free variable stands twice in its absence."""
    free = [_free_terms(terms, variables) for _, terms in absences]
    return all([len(set(names)) == len(names) for names in free])


def _stand_in(terms, variables):
    """Whether all variables among some terms are some of these."""
    for term in terms:
        if isinstance(term, str) and term not in variables:
            return False
    return True


def _is_renaming(names):
    return isinstance(names, dict) and all([is_name(name) and is_name(names[name]) for name in names])


class Clause:
    """Parts, tests, absences, a head and perhaps a summed term. It never changes."""

    def __init__(self, parts, *, tests=(), absences=(), head=(), summed=None):
        terms = terms_in_parts(parts, 1, MAX_PARTS)
        absent = terms_in_parts(absences, 0, MAX_ABSENCES)
        if terms is None or absent is None or not _are_tests(tests):
            raise InvalidClause("these are no parts, no tests or no absences of a clause")
        if not _is_head(head) or not (summed is None or is_term(summed)):
            raise InvalidClause("this is no head or no summed term")
        tested = terms_of_tests(tests) if tests else ()
        variables = variables_in(terms)
        if not _stand_in(head, variables) or not _stand_in((summed, *tested), variables):
            raise InvalidClause("a variable of a test, of the head or of the summed term stands in no part")
        free = _free_terms(absent, variables)
        if free and not _are_free_once(absences, variables):
            raise InvalidClause("a free variable stands twice in its absence")
        self._parts = parts
        self._tests = tests
        self._absences = absences
        self._head = head
        self._summed = summed
        self._variables = variables
        self._terms = (*terms, *tested, *absent)
        self._free = variables_in(free) if free else ()
        # Searches for matches are made when they are first needed, once for each clause.
        self._chain = None
        self._all = None
        self._told = None

    @property
    def parts(self):
        """The tuple of the parts."""
        return self._parts

    @property
    def tests(self):
        """The tuple of the tests."""
        return self._tests

    @property
    def absences(self):
        """The tuple of the absences."""
        return self._absences

    @property
    def head(self):
        """The tuple of the variables of the head."""
        return self._head

    @property
    def summed(self):
        """The summed term, or None."""
        return self._summed

    @property
    def variables(self):
        """The ascending tuple of the variables of the parts."""
        return self._variables

    @property
    def free(self):
        """The ascending tuple of the names of the free variables."""
        return self._free

    def named(self):
        """The list of the named integers, as often as they stand in the parts, the tests and the absences."""
        return [term for term in self._terms if not isinstance(term, str)]

    def chain(self):
        """The clause made ready for few rows."""
        if self._chain is None:
            self._chain = Chain(self)
        return self._chain

    def search_all(self):
        """The search that tells all variables."""
        if self._all is None:
            self._all = Search(self)
        return self._all

    def search_told(self):
        """The search that tells at least the variables of the head, the summed term and the absences."""
        if self._told is None:
            terms = [term for _, terms in self._absences for term in terms if term in self._variables]
            self._told = Search(self, variables_in([*self._head, self._summed, *terms]))
        return self._told

    def with_head(self, head):
        """The clause with another head."""
        return Clause(self._parts, tests=self._tests, absences=self._absences, head=head, summed=self._summed)

    def with_tests(self, *tests):
        """The clause with more tests, behind its own."""
        more = self._tests + tests
        return Clause(self._parts, tests=more, absences=self._absences, head=self._head, summed=self._summed)

    def with_absence(self, table, terms):
        """The clause with one more absence, the last."""
        more = self._absences + ((table, terms),)
        return Clause(self._parts, tests=self._tests, absences=more, head=self._head, summed=self._summed)

    def without_absences(self):
        """The clause without its absences."""
        return Clause(self._parts, tests=self._tests, head=self._head, summed=self._summed)

    def renamed(self, names):
        """The clause with other names for variables, all at once."""
        if not _is_renaming(names):
            raise InvalidOperation("this is no dict from names to names")
        known = self._variables + self._free
        if len(set(renamed_terms(known, names))) < len(known):
            raise InvalidOperation("two names become one")
        summed = None if self._summed is None else renamed_term(self._summed, names)
        return Clause(
            renamed_parts(self._parts, names), tests=renamed_tests(self._tests, names),
            absences=renamed_parts(self._absences, names), head=renamed_terms(self._head, names), summed=summed)

    def __eq__(self, other):
        return (isinstance(other, Clause) and self._parts == other._parts and self._tests == other._tests
                and self._absences == other._absences and self._head == other._head
                and self._summed == other._summed)

    def __str__(self):
        return f"clause of {len(self._parts)} parts, {len(self._variables)} variables"


def _fits(schema, clause):
    """Whether the parts and the absences of a clause fit the tables of a schema."""
    for table, terms in [*clause.parts, *clause.absences]:
        if table not in schema or len(terms) != len(schema.columns_of(table)):
            return False
    return True


def _named_integers(clauses):
    """The ascending tuple of the named integers of a query with these clauses."""
    return integers_in([number for clause in clauses for number in clause.named()])


def _are_alike(form, clauses):
    """Whether the clauses have heads of one length, and summed terms just in sums."""
    width = len(clauses[0].head)
    for clause in clauses:
        if len(clause.head) != width or (clause.summed is not None) != (form == "sum"):
            return False
    return True


def _are_clauses(value):
    """Whether all of some values are clauses."""
    return all([isinstance(clause, Clause) for clause in value])


def _check_together(schema, clauses):
    """Refuse clauses, each of which makes a query of the schema, that make none together."""
    if not 1 <= len(clauses) <= MAX_CLAUSES:
        raise InvalidQuery("there are not one to three clauses")
    if len(_named_integers(clauses)) > MAX_NAMED:
        raise InvalidQuery("there are too many named integers")
    if any([clause.absences for clause in clauses]) and not keep_rules(schema, clauses):
        raise InvalidQuery("the absences break a rule")


def _check_clauses(schema, form, clauses):
    """Refuse clauses that make no query of this form."""
    if not _are_clauses(clauses):
        raise InvalidClause("some value is no clause")
    if not 1 <= len(clauses) <= MAX_CLAUSES or not _are_alike(form, clauses):
        raise InvalidQuery("these are not one to three clauses with like heads and the summed terms of the form")
    if not all([_fits(schema, clause) for clause in clauses]):
        raise InvalidQuery("some part or absence does not fit the tables")
    _check_together(schema, clauses)


def check_query(value):
    """Refuse a value that is no query."""
    if not isinstance(value, Query):
        raise InvalidQuery("this is no query")


class Query:
    """A form and one to three clauses over a schema. It never changes."""

    FORMS = ("distinct", "count", "sum")

    def __init__(self, schema, form, *clauses):
        check_schema(schema)
        if not Query.is_form(form):
            raise InvalidQuery("the form is none of distinct, count and sum")
        _check_clauses(schema, form, clauses)
        self._schema = schema
        self._form = form
        self._clauses = clauses
        self._integers = _named_integers(clauses)
        # What is found of the query to decide it is kept here: its drafts, and the survey by the last placement.
        self.kept_drafts = None
        self.kept_survey = None

    @classmethod
    def of(cls, schema, form, clauses):
        """The query with the clauses of a tuple."""
        check_schema(schema)
        if not Query.is_form(form) or not isinstance(clauses, tuple):
            raise InvalidQuery("this is no form, or the clauses are no tuple")
        return cls(schema, form, *clauses)

    @staticmethod
    def is_form(value):
        """Whether the value is the form of a query."""
        return isinstance(value, str) and value in Query.FORMS

    @property
    def schema(self):
        """The schema."""
        return self._schema

    @property
    def form(self):
        """The form."""
        return self._form

    @property
    def clauses(self):
        """The tuple of the clauses."""
        return self._clauses

    @property
    def integers(self):
        """The ascending tuple of the named integers."""
        return self._integers

    @property
    def width(self):
        """The length of the heads."""
        return len(self._clauses[0].head)

    def __call__(self, database):
        if not isinstance(database, Database) or database.schema != self._schema:
            raise InvalidDatabase("this is no database of an equal schema")
        return checked_answer(self._form, numbers_on(self._form, self._clauses, database.rows, _MATCH_LIMIT))

    def only(self, index):
        """The query of the clause with this index."""
        if not is_number(index) or not 0 <= index < len(self._clauses):
            raise InvalidNumber(index)
        return Query(self._schema, self._form, self._clauses[index])

    def __add__(self, other):
        if not isinstance(other, Query) or other._schema != self._schema:
            raise InvalidOperation("the other value is no query of an equal schema")
        if other._form != self._form or other.width != self.width:
            raise InvalidOperation("the queries have different forms or widths")
        clauses = self._clauses + other._clauses
        return Query(self._schema, self._form, *clauses)

    def __iter__(self):
        return iter(self._clauses)

    def __len__(self):
        return len(self._clauses)

    def __contains__(self, x):
        return isinstance(x, Clause) and x in self._clauses

    def __eq__(self, other):
        return (isinstance(other, Query) and self._schema == other._schema and self._form == other._form
                and self._clauses == other._clauses)

    def __str__(self):
        return f"{self._form} query of {len(self._clauses)} clauses"
