"""Grounds: a placement and a query that have small cases, and what their plans have in common."""

from dealtrows.decide.plans import Plan


class Ground:
    """A placement and a query that have small cases."""

    def __init__(self, query, survey):
        self.asked = query
        self.of_schema = query.schema
        self.ruled = survey.ruled
        self.all_kinds = survey.all_kinds
        self.is_apart = survey.is_apart
        self.deals = survey.deals
        # For each pattern its deal, its values and its number of classes.
        self.entries = survey.entries
        self._chains = None
        self._numbers = {}

    def chains(self):
        """For each clause its chain, its tied columns and what they are known by, and what its parts are known by."""
        if self._chains is None:
            told = [clause.chain() for clause in self.asked.clauses]
            self._chains = [(chain, self._tied_columns(chain), chain.parts_at()) for chain in told]
        return self._chains

    def _tied_columns(self, chain):
        """For each absence of a clause its table, and its tied columns with what they are known by."""
        schema = self.of_schema
        return [(table, [(schema.columns_of(table)[place], at) for place, at in tied]) for table, tied in chain.ties_at]

    def plan_of(self, entry):
        """The plan of a pattern."""
        deal, values, used = entry
        return Plan(self, deal, values, used)

    def number_of(self, pairs):
        """A number for the rows of a case: equal rows have equal numbers."""
        return self._numbers.setdefault(pairs, len(self._numbers))

    def key_of(self, case):
        """What tells a case of the placement apart from others, as the keys of frames do, or None for unknown rows."""
        pairs = case.database.pairs()
        if pairs not in self._numbers:
            return None
        places = case.places
        return (self._numbers[pairs], case.nodes, tuple([places[place] for place in places]))
