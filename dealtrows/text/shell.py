"""A shell: commands for a store, as lines, and their results, as texts."""

from dealtrows.base.names import is_name
from dealtrows.decide.verdicts import counterexample_of
from dealtrows.errors import BrokenConstraint, InvalidClause, InvalidNumber, InvalidOperation, InvalidPlacement
from dealtrows.errors import InvalidQuery, InvalidRow, InvalidRule, MissingRow, NoNodes, NothingToUndo, ParseError
from dealtrows.errors import TooMany, UnknownName
from dealtrows.live.store import Store
from dealtrows.text.texts import read_placement, read_query, read_schema, write_case
from dealtrows.text.words import integer_in, integers_in_words, line_of, rules_in_line

_WEIGHTS = (1, 2, 3, 4)
_WHAT = "what"


def _nodes_text(nodes):
    """The text of some nodes."""
    return line_of(nodes) if nodes else "none"


def _move_line(move):
    """The line of a row, its nodes before, and its nodes after."""
    table, row, before, after = move
    return f"{line_of([table, *row])}: {_nodes_text(before)} -> {_nodes_text(after)}"


def _answer_text(answer):
    """The lines of the heads of an answer and their numbers."""
    return "\n".join([line_of([*head, "=", number]) for head, number in answer.pairs()])


def _constraint_text(constraint):
    """The words of a key or a reference."""
    if constraint[0] == "key":
        return line_of(["key", constraint[1], *constraint[2]])
    return line_of(constraint)


def _pair_in(words):
    """The table and the row, of one or more integers, that some words are, or None."""
    row = integers_in_words(words[1:])
    if len(words) < 2 or not is_name(words[0]) or row is None:
        return None
    return (words[0], row)


class Shell:
    """A store that takes commands."""

    def __init__(self, schema, placement, *, nodes=1):
        deal = read_placement(read_schema(schema), placement)
        spreads = deal.spreads
        self._store = Store(deal, nodes=nodes, spreads={spread: _WEIGHTS[:spreads[spread]] for spread in spreads})

    def store(self):
        """A twin of the store."""
        return self._store.twin()

    def __call__(self, line):
        return self.run(line)

    def run(self, line):
        """Do the command of a line, and return its text."""
        try:
            found = self._result(line)
            return found if found != "" else "nothing"
        except ParseError:
            return _WHAT
        except UnknownName as unknown:
            return f"unknown {unknown.name}"
        except MissingRow:
            return "missing"
        except InvalidRow:
            return "row"
        except (InvalidClause, InvalidQuery):
            return "query"
        except (InvalidRule, InvalidPlacement):
            return "rule"
        except BrokenConstraint as broken:
            return f"broken {_constraint_text(broken.constraint)}"
        except (InvalidNumber, NoNodes) as wrong:
            return f"number {wrong.value}"
        except NothingToUndo:
            return "undo"
        except TooMany as most:
            return f"many {most.limit}"
        except InvalidOperation:
            return "operation"

    def _result(self, line):
        """The text of a command, perhaps empty."""
        if not isinstance(line, str) or "\n" in line:
            return _WHAT
        if line == "undo":
            self._store.undo()
            return self._moves_text()
        if line == "redo":
            self._store.redo()
            return self._moves_text()
        if line == "nodes":
            return self._nodes_table()
        word, _, rest = line.partition(" ")
        if word in ("ask", "whole", "check"):
            return self._query_text(word, rest)
        if word in ("nodes", "at"):
            return self._numbered(word, integer_in(rest))
        if word in ("add", "remove"):
            return self._changed(word, rest.split(" "))
        return self._put(rest) if word == "put" else _WHAT

    def _moves_text(self):
        """The lines of the moves."""
        return "\n".join([_move_line(move) for move in self._store.moves])

    def _rows_at(self, node):
        """The pairs of the rows on a node."""
        rows = self._store.case().rows_at(node)
        return [(table, row) for table in rows for row in rows[table]]

    def _nodes_table(self):
        """A line for each node, with its number of rows."""
        many = [len(self._rows_at(node)) for node in range(self._store.nodes)]
        return "\n".join([f"{node:>2}{many[node]:>5}" for node in range(len(many))])

    def _query_text(self, word, rest):
        """The text of what is told of a query."""
        placement = self._store.placement
        query = read_query(placement.schema, "\n".join(rest.split("; ")))
        if word == "ask":
            return _answer_text(self._store.ask(query))
        if word == "whole":
            return _answer_text(self._store.case().whole(query))
        case = counterexample_of(placement, query)
        return "right" if case is None else f"wrong\n{write_case(case)}"

    def _numbered(self, word, number):
        """The text of a command with a number, or None for no number."""
        if number is None:
            return _WHAT
        if word == "at":
            return "\n".join([line_of([table, *row]) for table, row in self._rows_at(number)])
        self._store.resize(number)
        return self._moves_text()

    def _changed(self, word, words):
        """The text of a row that is added, perhaps on a node that is told, or removed."""
        is_told = word == "add" and len(words) > 2 and words[-2] == "on"
        node = integer_in(words[-1]) if is_told else None
        pair = _pair_in(words[:-2] if is_told else words)
        if pair is None or is_told and node is None:
            return _WHAT
        if word == "add":
            self._store.add(pair[0], pair[1], node=node)
        else:
            self._store.remove(pair[0], pair[1])
        return self._moves_text()

    def _put(self, line):
        """The text of other rules for a table."""
        found = rules_in_line(line)
        if found is None:
            return _WHAT
        table, rules = found
        self._store.put(table, *rules)
        return self._moves_text()
