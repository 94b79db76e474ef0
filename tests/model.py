"""The two objects of a list of calls as DOC.md tells them, over the slow reckoning of tests.reference."""

from tests.reference import BUILD, CHANGE, EDIT, LOOK, LOSE, MEND, NODE, READ, SPOIL, STATE, WRONG
from tests.reference import computed, expected, held_rows, joined, made_again, part, rises, stored, told


class Model:
    """Objects that were built: each a code, and the rows of each node that isn't lost."""

    def __init__(self):
        self.built = {}

    def answer(self, number, whole, *lists):
        if number <= BUILD:
            answer = expected(number, whole, *lists)
            if number == BUILD and answer == [0]:
                code = tuple(whole[1:])
                self.built[whole[0]] = code, {node: stored(code, node, lists[0]) for node in range(code[2])}
            return answer
        if whole[0] > 1:
            return [-1]
        if whole[0] not in self.built:
            return [-3]
        code, rows = self.built[whole[0]]
        whole = whole[1:]
        for refusal in (-1, -4, -5):
            if refusal in refusals(number, code, rows, whole, lists):
                return [refusal]
        return done(number, code, rows, whole, lists)


def refusals(number, code, rows, whole, lists):
    """Every refusal but -9 that a sentence of the call gives, whatever comes first."""
    k, d, n, size = code
    found = set()
    named = whole[:1] if number in (NODE, LOSE, SPOIL, MEND) else []
    from_set = lists[0] if number in (MEND, READ) else []
    if any(node >= n for node in named + from_set) or number == SPOIL and whole[1] >= d:
        found.add(-1)
    if number in (NODE, LOSE, SPOIL) and whole[0] not in rows:
        found.add(-4)
    if any(node not in rows for node in from_set) or number == MEND and whole[0] in from_set:
        found.add(-4)
    if number == EDIT and whole[0] >= held_rows(code):
        found.add(-4)
    if number in (SPOIL, EDIT) and len(lists[0]) != size:
        found.add(-5)
    if number in (MEND, READ) and (not rises(from_set) or len(from_set) < {MEND: d, READ: k}[number]):
        found.add(-5)
    if number == LOOK and len(rows) < k + 2:
        found.add(-5)
    return found


def done(number, code, rows, whole, lists):
    """The answer to a call that nothing but -9 refuses; rows is changed where the call changes it."""
    k, d, n, size = code
    if number == STATE:
        return [0, k, d, n, size, *sorted(rows)]
    if number == NODE:
        return [0, *rows[whole[0]]]
    if number == LOSE:
        rows.pop(whole[0])
    if number == SPOIL:
        node, j = whole
        for at in range(size):
            rows[node][j * size + at] ^= lists[0][at]
    if number == MEND:
        made = made_again(code, lists[0], joined(part(code, rows[node], whole[0]) for node in lists[0]))
        if made is None:
            return [-9]
        rows[whole[0]] = made
    if number == EDIT:
        for node in list(rows):
            rows[node] = computed(CHANGE, code, [node, whole[0]], [rows[node], lists[0]])[1:]
    if number == READ:
        document = told(code, lists[0], joined(rows[node] for node in lists[0]))
        return [-9] if document is None else [held_rows(code), *document]
    if number == LOOK:
        return computed(WRONG, code, [], [sorted(rows), joined(rows[node] for node in sorted(rows))])
    return [0]
