"""What DOC.md says, written a second time and as slowly as it reads, to hold the program against.

Codes are tuples (k, d, n, len), rows lists of bytes. Nothing here is drawn from the package but `answers`.
"""

from spreadnodes.clusters import answers

JUDGE, STORE, TELL, PART, AGAIN, AGREE, CHANGE, WRONG, BUILD = range(9)
STATE, NODE, LOSE, SPOIL, MEND, EDIT, READ, LOOK = range(9, 17)


def listed(number, whole, *lists):
    """One call as it stands in the list of calls."""
    call = [number, *whole]
    for one in lists:
        call += [len(one), *one]
    return call


def parted(given):
    """The answers one by one, out of the list that is given back."""
    found = []
    at = 0
    while at < len(given):
        found.append(given[at + 1:at + 1 + given[at]])
        at += 1 + given[at]
    assert at == len(given)
    return found


def asked_all(calls):
    """The answers to calls in one list; each call is (number, whole, list, ..)."""
    numbers = [number for call in calls for number in listed(*call)]
    assert len(calls) <= 300 and len(numbers) <= 30000
    found = parted(answers(numbers))
    assert len(found) == len(calls)
    return found


def asked(number, whole, *lists):
    """The answer to one call alone."""
    (answer,) = asked_all([(number, whole, *lists)])
    return answer


def product(a, b):
    result = 0
    for bit in range(8):
        if b >> bit & 1:
            result ^= a << bit
    for bit in range(15, 7, -1):
        if result >> bit & 1:
            result ^= 0x11B << (bit - 8)
    return result


PRODUCTS = [[product(a, b) for b in range(256)] for a in range(256)]
INVERSES = [0] + [PRODUCTS[a].index(1) for a in range(1, 256)]


def power(base, exponent):
    result = 1
    for _ in range(exponent):
        result = PRODUCTS[result][base]
    return result


def is_code(code):
    k, d, n, size = code
    return 1 <= k and k <= d and d < n and n <= 9 and d <= 6 and 1 <= size <= 64


def held_rows(code):
    k, d, _, _ = code
    return k * d - k * (k - 1) // 2


def entries(code):
    """For each entry (i, j) of the square that is a document's row: which one."""
    k, d, _, _ = code
    found = {}
    for i in range(k):
        for j in range(i, d):
            found[i, j] = found[j, i] = len(set(found.values()))
    return found


def factors(code, node):
    """For each row of the node: by what each row of the document is multiplied in it."""
    _, d, _, _ = code
    places = entries(code)
    table = []
    for j in range(d):
        line = [0] * held_rows(code)
        for i in range(d):
            if (i, j) in places:
                line[places[i, j]] ^= power(node + 1, i)
        table.append(line)
    return table


def applied(table, rows, size):
    """Each of the table's lines as a sum of so many times the rows."""
    found = []
    for line in table:
        row = [0] * size
        for factor, other in zip(line, rows, strict=True):
            row = [a ^ PRODUCTS[factor][b] for a, b in zip(row, other, strict=True)]
        found.append(row)
    return found


def cut(numbers, size):
    return [numbers[at:at + size] for at in range(0, len(numbers), size)]


def joined(rows):
    return [byte for row in rows for byte in row]


def stored(code, node, document):
    return joined(applied(factors(code, node), cut(document, code[3]), code[3]))


def solved(table, rows):
    """The rows that the table's lines give these rows of, by elimination; None if there are none."""
    lines = [(list(line), list(row)) for line, row in zip(table, rows, strict=True)]
    wide = len(table[0])
    for column in range(wide):
        at = next(at for at in range(column, len(lines)) if lines[at][0][column])
        lines[column], lines[at] = lines[at], lines[column]
        inverse = PRODUCTS[INVERSES[lines[column][0][column]]]
        pivot = [[inverse[x] for x in half] for half in lines[column]]
        lines[column] = pivot
        for other in range(len(lines)):
            factor = lines[other][0][column]
            if other != column and factor:
                times = PRODUCTS[factor]
                lines[other] = [[x ^ times[y] for x, y in zip(a, b)] for a, b in zip(lines[other], pivot)]
    if any(any(row) for _, row in lines[wide:]):
        return None
    return joined(row for _, row in lines[:wide])


def told(code, nodes, rows):
    return solved([line for node in nodes for line in factors(code, node)], cut(rows, code[3]))


def part(code, rows, node):
    _, d, _, size = code
    return joined(applied([[power(node + 1, j) for j in range(d)]], cut(rows, size), size))


def made_again(code, nodes, parts):
    return solved([[power(node + 1, j) for j in range(code[1])] for node in nodes], cut(parts, code[3]))


def without(code, nodes, rows, at):
    """The set and its rows without the node that stands there."""
    each = code[1] * code[3]
    return nodes[:at] + nodes[at + 1:], rows[:at * each] + rows[(at + 1) * each:]


def rises(nodes):
    return nodes == sorted(set(nodes))


def expected(number, whole, *lists):
    """The answer that DOC.md asks for, of the calls 0 to 8."""
    if number == BUILD:
        which, whole = whole[0], whole[1:]
        if which > 1:
            return [-1]
    code, more = tuple(whole[:4]), list(whole[4:])
    k, d, n, size = code
    nodes = {STORE: more, PART: more, AGREE: more, CHANGE: more[:1]}.get(number, more)
    if number in (TELL, AGAIN, WRONG):
        nodes = nodes + lists[0]
    if not is_code(code) or any(node >= n for node in nodes):
        return [-1]
    if number == AGAIN and more[0] in lists[0] or number == CHANGE and more[1] >= held_rows(code):
        return [-4]
    return lengths_refused(number, code, lists) or computed(number, code, more, lists)


def lengths_refused(number, code, lists):
    k, d, n, size = code
    if number in (TELL, AGAIN, WRONG):
        each, fewest = {TELL: (d * size, k), AGAIN: (size, d), WRONG: (d * size, k + 2)}[number]
        if not rises(lists[0]) or len(lists[0]) < fewest or len(lists[1]) != len(lists[0]) * each:
            return [-5]
        return None
    document, node = held_rows(code) * size, d * size
    due = {JUDGE: (), STORE: (document,), BUILD: (document,), PART: (node,), AGREE: (node, node), CHANGE: (node, size)}
    if tuple(len(one) for one in lists) != due[number]:
        return [-5]
    return None


def computed(number, code, more, lists):
    k, d, n, size = code
    if number == JUDGE:
        return [0, held_rows(code), d * size]
    if number == STORE:
        return [d] + stored(code, more[0], lists[0])
    if number == TELL:
        document = told(code, *lists)
        return [-9] if document is None else [held_rows(code)] + document
    if number == PART:
        return [1] + part(code, lists[0], more[0])
    if number == AGAIN:
        rows = made_again(code, *lists)
        return [-9] if rows is None else [d] + rows
    if number == AGREE:
        i, j = more
        if i == j:
            return [int(lists[0] == lists[1])]
        return [int(part(code, lists[0], j) == part(code, lists[1], i))]
    if number == CHANGE:
        document = [0] * (held_rows(code) * size)
        document[more[1] * size:(more[1] + 1) * size] = lists[1]
        return [0] + [a ^ b for a, b in zip(lists[0], stored(code, more[0], document), strict=True)]
    if number == WRONG:
        if told(code, *lists) is not None:
            return [0]
        ones = [node for at, node in enumerate(lists[0]) if told(code, *without(code, *lists, at)) is not None]
        return [1, ones[0]] if len(ones) == 1 else [-9]
    return [0]
