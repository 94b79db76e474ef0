"""The calls 0 to 7, which are asked of a code alone. Each gives back its whole answer as a list."""

from spreadnodes.codes import cut, document_bytes, document_rows, is_code, node_bytes
from spreadnodes.refusals import APART, NO_SUCH, NOT_LET, UNFIT, is_missing, is_unfit
from spreadnodes.spreading import are_agreeing, changed_rows, made_again, part_for, rows_of_node, square_of
from spreadnodes.spreading import told_document, wrong_nodes


def judge(code):
    """How many rows a document has and how many bytes a node."""
    if not is_code(code):
        return [NO_SUCH]
    return [0, document_rows(code), node_bytes(code)]


def store(code, node, document):
    """The node's rows of the document."""
    if is_missing(code, [node]):
        return [NO_SUCH]
    if len(document) != document_bytes(code):
        return [UNFIT]
    return [code.d] + rows_of_node(square_of(code, document), node)


def tell(code, nodes, rows):
    """The document that the nodes have."""
    if is_missing(code, nodes):
        return [NO_SUCH]
    if is_unfit(nodes, code.k, rows, node_bytes(code)):
        return [UNFIT]
    document = told_document(code, nodes, cut(rows, node_bytes(code)))
    if document is None:
        return [APART]
    return [document_rows(code)] + document


def part(code, node, rows):
    """The part of the rows for the node."""
    if is_missing(code, [node]):
        return [NO_SUCH]
    if len(rows) != node_bytes(code):
        return [UNFIT]
    return [1] + part_for(code, node, rows)


def again(code, node, nodes, parts):
    """The node's rows, made again of the nodes' parts for it."""
    if is_missing(code, [node] + nodes):
        return [NO_SUCH]
    if node in nodes:
        return [NOT_LET]
    if is_unfit(nodes, code.d, parts, code.width):
        return [UNFIT]
    rows = made_again(code, nodes, cut(parts, code.width))
    if rows is None:
        return [APART]
    return [code.d] + rows


def agree(code, i, j, rows_i, rows_j):
    """Whether two nodes' rows agree."""
    if is_missing(code, [i, j]):
        return [NO_SUCH]
    if len(rows_i) != node_bytes(code) or len(rows_j) != node_bytes(code):
        return [UNFIT]
    return [1 if are_agreeing(code, i, j, rows_i, rows_j) else 0]


def change(code, node, i, rows, difference):
    """The node's rows behind a change of the document's row i."""
    if is_missing(code, [node]):
        return [NO_SUCH]
    if i >= document_rows(code):
        return [NOT_LET]
    if len(rows) != node_bytes(code) or len(difference) != code.width:
        return [UNFIT]
    return [0] + changed_rows(code, node, rows, i, difference)


def wrong(code, nodes, rows):
    """Whether the nodes go together, and else the wrong one."""
    if is_missing(code, nodes):
        return [NO_SUCH]
    if is_unfit(nodes, code.k + 2, rows, node_bytes(code)):
        return [UNFIT]
    held = cut(rows, node_bytes(code))
    if told_document(code, nodes, held) is not None:
        return [0]
    wrong_ones = wrong_nodes(code, nodes, held)
    if len(wrong_ones) != 1:
        return [APART]
    return [1, wrong_ones[0]]
