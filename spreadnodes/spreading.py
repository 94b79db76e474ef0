"""Documents spread over nodes: stored, told, made again, compared, changed.

Everything here is of a code that is one, of nodes that are there, and of bytes of the right length. A node's rows
are one list of bytes, and so is a row of the square: d entries, one behind another. As sums and products go byte
by byte, such a list is reckoned with as if it were one long row.
"""

from spreadnodes.codes import cut, document_rows, place_of, rows_above
from spreadnodes.field import plus
from spreadnodes.polynomials import rows_through, value_at


def square_of(code, document):
    """The square's d rows."""
    entries = cut(document, code.width)
    square = []
    for i in range(code.d):
        row = []
        for j in range(code.d):
            low = min(i, j)
            if low < code.k:
                row.extend(entries[rows_above(code, low) + max(i, j) - low])
            else:
                row.extend([0] * code.width)
        square.append(row)
    return square


def rows_of_node(square, node):
    """The rows that the node has of the document with this square."""
    return value_at(place_of(node), square)


def lower_left(code, right):
    """The left k columns of the square, its first k rows as noughts, those below as the right ones tell them."""
    entries = [cut(row, code.width) for row in right]
    rows = [[0] * (code.k * code.width) for i in range(code.k)]
    for at in range(code.d - code.k):
        row = []
        for j in range(code.k):
            row.extend(entries[j][at])
        rows.append(row)
    return rows


def likely_document(code, nodes, held):
    """The one document that k nodes with these rows can have, if they have one at all.

    The right d - k columns of the square are noughts from row k on, so k nodes tell them. They are the lower rows of
    the left columns too; once these are taken away, k nodes tell what is left.
    """
    places = [place_of(node) for node in nodes]
    border = code.k * code.width
    right = rows_through(places, [rows[border:] for rows in held])
    lower = lower_left(code, right)
    left = rows_through(places, [plus(rows[:border], value_at(place, lower)) for place, rows in zip(places, held)])
    document = []
    for i in range(code.k):
        document.extend(left[i][i * code.width:])
        document.extend(right[i])
    return document


def nodes_apart(code, nodes, held, document):
    """The nodes whose rows are not those that the document gives them."""
    square = square_of(code, document)
    return [node for node, rows in zip(nodes, held) if rows_of_node(square, node) != rows]


def told_document(code, nodes, held):
    """The document of k nodes or more, held being each one's rows; None if they don't go together."""
    document = likely_document(code, nodes[:code.k], held[:code.k])
    if len(nodes_apart(code, nodes, held, document)) > 0:
        return None
    return document


def part_for(code, node, rows):
    """The part that a node with these rows has for the node."""
    return value_at(place_of(node), cut(rows, code.width))


def made_again(code, nodes, parts):
    """The rows of the node that these parts of d nodes or more are for; None if they don't go together."""
    places = [place_of(node) for node in nodes]
    made = rows_through(places[:code.d], parts[:code.d])
    for place, part in zip(places, parts):
        if value_at(place, made) != part:
            return None
    rows = []
    for row in made:
        rows.extend(row)
    return rows


def are_agreeing(code, i, j, rows_i, rows_j):
    """Whether the rows of node i and those of node j agree."""
    if i == j:
        return rows_i == rows_j
    return part_for(code, j, rows_i) == part_for(code, i, rows_j)


def alone_at(at, row, count):
    """So many rows, all of noughts but this row, which stands there."""
    return [0] * (at * len(row)) + row + [0] * ((count - at - 1) * len(row))


def changed_rows(code, node, rows, i, difference):
    """The node's rows once the document's row i is other by the difference."""
    document = alone_at(i, difference, document_rows(code))
    return plus(rows, rows_of_node(square_of(code, document), node))


def wrong_nodes(code, nodes, held):
    """The nodes, of k + 2 or more that don't go together, without which the others do.

    Whichever node of a group is left out, k others at least stand outside the group, and tell the one document that
    all the others can have. So one document does for a whole group, and groups are as large as that lets them be.
    """
    wrong_ones = []
    for group in cut(nodes, len(nodes) - code.k):
        outside = [at for at, node in enumerate(nodes) if node not in group][:code.k]
        document = likely_document(code, [nodes[at] for at in outside], [held[at] for at in outside])
        apart = nodes_apart(code, nodes, held, document)
        if len(apart) == 1 and apart[0] in group:
            wrong_ones.append(apart[0])
    return wrong_ones
