"""Scenes: what the answers are in the cases of a plan, without making these cases.

Blocking rows lie in tables of no parts, so that all cases of a plan have the
open matches of its pattern. Sets of nodes are kept as the bits of integers.
"""

from dealtrows.deal.placements import ALL
from dealtrows.decide.ties import is_blocked_by


def _joined(bits):
    """The bits that some integer has."""
    found = 0
    for told in bits:
        found = found | told
    return found


def _many_bits(bits):
    """How many bits are set."""
    return f"{bits:b}".count("1")


def _told_heads(numbers):
    """For each head of a distinct answer, by the numbers of its matches, 1."""
    return {head: 1 for head in numbers if numbers[head] > 0}


class Scene:
    """The open matches of a plan: their heads, their numbers, the places of their rows, and their ties."""

    def __init__(self, plan):
        self._is_distinct = plan.ground.asked.form == "distinct"
        at = {place: index for index, place in enumerate(plan.all_places)}
        self._given = [None if given is None else [at[place] for place in given if place != ALL]
                       for given in plan.given]
        self._ties = {tie: index for index, tie in enumerate(plan.ties)}
        self._stopped_by = [[index for index, other in enumerate(plan.ties) if is_blocked_by(tie, other)]
                            for tie in plan.ties]
        # A row that lies everywhere is left out.
        rows = {pair: [at[place] for place in plan.by_pair[pair] if place in at] for pair in plan.by_pair
                if ALL not in plan.by_pair[pair]}
        told = [(clause, known) for clause, found in enumerate(plan.known_matches()) for known in found]
        self._clauses = [clause for clause, _ in told]
        self._matches = [self._told_match(plan, clause, known, rows) for clause, known in told]

    def _told_match(self, plan, clause, known, rows):
        """The head and the number of an open match, the places of its rows, and the indices of its ties."""
        chain = plan.ground.chains()[clause][0]
        pairs = plan.pairs_of_parts(clause, known)
        ties = [self._ties[tie] for tie in plan.ties_of(clause, known)] if self._ties else []
        number = 1 if chain.summed_at is None else known[chain.summed_at]
        return (chain.head_of(known), number, [rows[pair] for pair in pairs if pair in rows], ties)

    def masks(self, layout, nodes):
        """For each open match the bits of the nodes on which all of its rows lie."""
        bits = [1 << node for node in layout]
        found = []
        for _, _, rows, _ in self._matches:
            told = (1 << nodes) - 1
            for places in rows:
                told = told & _joined([bits[at] for at in places])
            found.append(told)
        return found

    def _stops(self, layout, nodes, chosen):
        """For each tie the bits of the nodes on which some row blocks it."""
        made = []
        for given, told in zip(self._given, chosen):
            if given is None:
                made.append(_joined([1 << node for node in told]))
            elif not told:
                made.append(0)
            else:
                # Only rows that lie everywhere have no place.
                made.append(_joined([1 << layout[at] for at in given]) if given else (1 << nodes) - 1)
        return [_joined([made[index] for index in told]) for told in self._stopped_by]

    def gaps(self, masks, layout, nodes, chosen):
        """For each head what the matches of each clause add to its combined number, less the global one."""
        stops = self._stops(layout, nodes, chosen)
        found = {}
        for clause, (head, _, _, ties), mask in zip(self._clauses, self._matches, masks):
            stop = _joined([stops[at] for at in ties])
            found[head, clause] = found.get((head, clause), 0) + _many_bits(mask & ~stop) - (0 if stop else 1)
        return found

    def numbers(self, masks, layout, nodes, chosen):
        """The numbers of the heads in the global and in the combined answer.

        Some of them are perhaps 0, in both of them together, so that equal answers have equal numbers.
        """
        stops = self._stops(layout, nodes, chosen) if any(chosen) else None
        whole, mine = {}, {}
        for (head, number, _, ties), mask in zip(self._matches, masks):
            stop = 0 if stops is None else _joined([stops[at] for at in ties])
            many = _many_bits(mask & ~stop)
            whole[head] = whole.get(head, 0) + (0 if stop else number)
            mine[head] = mine.get(head, 0) + many * number
        if self._is_distinct:
            return (_told_heads(whole), _told_heads(mine))
        return (whole, mine)


def answered_choices(plan):
    """For all choices of a plan their frames, numbers of nodes, nodes of places, and numbers of both answers."""
    scene = Scene(plan)
    found = []
    for layout, nodes in plan.laid_out():
        masks = scene.masks(layout, nodes)
        for chosen in plan.sets(nodes):
            frame = plan.frame(chosen)
            numbers = scene.numbers(masks, layout, nodes, chosen)
            found.append((frame, nodes, frame.nodes_with(layout, chosen), numbers))
    return found


def gapped_choices(plan):
    """For all choices of a plan their frames, numbers of nodes, nodes of places, and gaps by heads and clauses."""
    scene = Scene(plan)
    found = []
    for layout, nodes in plan.laid_out():
        masks = scene.masks(layout, nodes)
        for chosen in plan.sets(nodes):
            frame = plan.frame(chosen)
            found.append((frame, nodes, frame.nodes_with(layout, chosen), scene.gaps(masks, layout, nodes, chosen)))
    return found


def wrong_case(plan, laid_out):
    """A case of a plan, with one of some layouts, in which the answers differ, or None."""
    scene = Scene(plan)
    for layout, nodes in laid_out:
        masks = scene.masks(layout, nodes)
        for chosen in plan.sets(nodes):
            whole, mine = scene.numbers(masks, layout, nodes, chosen)
            if whole != mine:
                frame = plan.frame(chosen)
                return frame.case_with(nodes, frame.nodes_with(layout, chosen))
    return None
