"""Guarded stores: only queries that are right for the placement are asked."""

from dealtrows.base.names import is_name
from dealtrows.decide.verdicts import decision
from dealtrows.errors import InvalidOperation, Rejected, TooMany, UnknownName
from dealtrows.live.store import State, Store

MAX_PLEDGES = 4


class Guard:
    """It refuses queries that are wrong for a placement."""

    @staticmethod
    def check(placement, query):
        """A certificate of the placement and the query."""
        word, found = decision(placement, query)
        if word == "wrong":
            raise Rejected(found)
        return found


class GuardedStore(Store, Guard):
    """A store of which only right queries are asked, and whose pledged queries stay right."""

    def __init__(self, placement, *, nodes=1, spreads=None):
        super().__init__(placement, nodes=nodes, spreads=spreads)

    @property
    def pledges(self):
        """A dict from names to the queries that are pledged by them."""
        pledged = self._past.now.pledged
        return {name: pledged[name] for name in sorted(pledged)}

    def ask(self, query):
        """The combined answer of a query that is right."""
        Guard.check(self.placement, query)
        return super().ask(query)

    def __call__(self, query):
        return self.ask(query)

    def _promise(self, pledged):
        """Change to these pledged queries, and return the moves."""
        self._past.change(State(self._past.now.dealt, pledged))
        return self.moves

    def pledge(self, name, query):
        """Pledge a query."""
        if not is_name(name):
            raise InvalidOperation("this is no name")
        Guard.check(self.placement, query)
        pledged = {**self._past.now.pledged, name: query}
        if len(pledged) > MAX_PLEDGES:
            raise TooMany(MAX_PLEDGES)
        return self._promise(pledged)

    def release(self, name):
        """Release a pledged query."""
        pledged = self._past.now.pledged
        if not is_name(name) or name not in pledged:
            raise UnknownName(name)
        return self._promise({other: pledged[other] for other in pledged if other != name})

    def put(self, table, *rules):
        """Give a table other rules, for which the pledged queries are right."""
        placement = self.placement_with(table, rules)
        pledges = self.pledges
        for name in pledges:
            Guard.check(placement, pledges[name])
        return super().put(table, *rules)

    def twin(self):
        """An independent copy, with its changes."""
        made = GuardedStore(self.placement, spreads=self._weights)
        made._past = self._past.outside()
        return made
