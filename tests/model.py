"""A small model of a store: it keeps all its states and works out where rows lie without haste."""

from dealtrows.base.databases import first_broken

ALL, FIRST, ANY = ("all",), ("first",), ("any",)


class Refused(Exception):
    """A change that a store refuses."""


class State:
    def __init__(self, rules, nodes, lone):
        self.rules, self.nodes, self.lone = rules, nodes, lone


class Model:
    """Lone has a node for each row, which counts as long as its table has the rule any."""

    def __init__(self, schema, rules, nodes, weights):
        self.schema, self.weights = schema, weights
        self.states = [State(rules, nodes, {})]
        self.at = 0
        self.floor = 0
        self.before = self.states[0]

    @property
    def now(self):
        return self.states[self.at]

    def nodes_of(self, state, table, row):
        found = set()
        columns = self.schema.columns_of(table)
        for rule in state.rules[table]:
            if rule == ALL:
                found |= set(range(state.nodes))
            elif rule == FIRST:
                found.add(0)
            elif rule == ANY:
                found.add(state.lone[table, row])
            elif rule[0] == "by":
                told = [row[columns.index(column)] for column in rule[2]]
                found.add(sum(weight * number for weight, number in zip(self.weights[rule[1]], told)) % state.nodes)
            else:
                _, mine, parent, key = self.schema.references[rule[1]]
                there = self.schema.columns_of(parent)
                for other, above in state.lone:
                    if other == parent and all(above[there.index(k)] == row[columns.index(m)] for m, k in zip(mine, key)):
                        found |= set(self.nodes_of(state, parent, above))
        return tuple(sorted(found))

    def lies(self, state):
        return {pair: self.nodes_of(state, *pair) for pair in state.lone}

    def moves(self):
        old, new = self.lies(self.before), self.lies(self.now)
        return tuple((*pair, old.get(pair, ()), new.get(pair, ())) for pair in sorted({*old, *new})
                     if old.get(pair, ()) != new.get(pair, ()))

    def moves_by(self, change, *given):
        """The moves by a change."""
        change(*given)
        return self.moves()

    def change(self, state):
        rows = {table: tuple(row for other, row in state.lone if other == table) for table in self.schema.tables}
        if len(state.lone) > 100 or first_broken(self.schema, rows) is not None:
            raise Refused
        self.before = self.now
        self.states[self.at + 1:] = [state]
        self.at += 1

    def add(self, pair, node):
        now = self.now
        lone = ANY in now.rules[pair[0]]
        if pair in now.lone or node is not None and (not lone or node >= now.nodes):
            raise Refused
        if node is None:
            many = [sum(other in told for told in self.lies(now).values()) for other in range(now.nodes)]
            node = many.index(min(many)) if lone else 0
        self.change(State(now.rules, now.nodes, {**now.lone, pair: node}))

    def remove(self, pair):
        now = self.now
        if pair not in now.lone:
            raise Refused
        self.change(State(now.rules, now.nodes, {other: now.lone[other] for other in now.lone if other != pair}))

    def put(self, table, rules):
        now = self.now
        rules = tuple(sorted(rules))
        gets = ANY in rules and ANY not in now.rules[table]
        self.change(State({**now.rules, table: rules}, now.nodes,
                          {pair: 0 if gets and pair[0] == table else now.lone[pair] for pair in now.lone}))

    def resize(self, nodes):
        now = self.now
        self.change(State(now.rules, nodes, {pair: now.lone[pair] % nodes for pair in now.lone}))

    def step(self, many):
        """Back for a number below 0, otherwise on."""
        if not self.floor <= self.at + many < len(self.states):
            raise Refused
        self.before = self.now
        self.at += many
        return self.at - self.floor

    def begin(self):
        """What the end of a block needs."""
        kept = (list(self.states), self.at, self.floor, self.before, self.now)
        self.floor = self.at
        return kept

    def restore(self, kept):
        self.states, self.at, self.floor, self.before, _ = kept

    def end(self, kept):
        """The changes of a block count as one."""
        _, _, floor, _, start = kept
        if self.at > self.floor:
            del self.states[self.floor + 1:self.at]
            self.at = self.floor + 1
        self.floor, self.before = floor, start
