"""The calls 8 to 16, which are asked of an object. Each gives back its whole answer as a list."""

from spreadnodes.code_calls import again, tell, wrong
from spreadnodes.codes import document_bytes, document_rows, is_code
from spreadnodes.field import plus
from spreadnodes.refusals import NO_SUCH, NOT_LET, UNFIT, is_missing
from spreadnodes.spreading import alone_at, changed_rows, part_for, rows_of_node, square_of


class Cluster:
    """A code, and for each of its nodes the rows that the node has, or None if it is lost."""

    def __init__(self, code, held):
        self.code = code
        self.held = held


def nodes_left(cluster):
    """The nodes that aren't lost, rising."""
    return [node for node in range(cluster.code.n) if cluster.held[node] is not None]


def has_lost(cluster, nodes):
    """Whether one of the nodes, which all are the code's, is lost."""
    return any([cluster.held[node] is None for node in nodes])


def rows_of_nodes(cluster, nodes):
    """The rows of the nodes, none of them lost, node by node."""
    rows = []
    for node in nodes:
        rows.extend(cluster.held[node])
    return rows


def build(clusters, which, code, document):
    """Put a cluster of all the code's nodes in the place of that object."""
    if which >= len(clusters) or not is_code(code):
        return [NO_SUCH]
    if len(document) != document_bytes(code):
        return [UNFIT]
    square = square_of(code, document)
    clusters[which] = Cluster(code, [rows_of_node(square, node) for node in range(code.n)])
    return [0]


def state(cluster):
    """The code and the nodes that aren't lost."""
    code = cluster.code
    return [0, code.k, code.d, code.n, code.width] + nodes_left(cluster)


def node_rows(cluster, node):
    """The rows that the node has."""
    if is_missing(cluster.code, [node]):
        return [NO_SUCH]
    if has_lost(cluster, [node]):
        return [NOT_LET]
    return [0] + cluster.held[node]


def lose(cluster, node):
    """Lose the node."""
    if is_missing(cluster.code, [node]):
        return [NO_SUCH]
    if has_lost(cluster, [node]):
        return [NOT_LET]
    cluster.held[node] = None
    return [0]


def spoil(cluster, node, j, difference):
    """Add the difference to row j of the node."""
    code = cluster.code
    if is_missing(code, [node]) or j >= code.d:
        return [NO_SUCH]
    if has_lost(cluster, [node]):
        return [NOT_LET]
    if len(difference) != code.width:
        return [UNFIT]
    cluster.held[node] = plus(cluster.held[node], alone_at(j, difference, code.d))
    return [0]


def mend(cluster, node, nodes):
    """Make the node's rows again from parts of the nodes."""
    code = cluster.code
    if is_missing(code, [node] + nodes):
        return [NO_SUCH]
    if has_lost(cluster, nodes):
        return [NOT_LET]
    # That the node itself is not in the set is asked by again, in its place of the order.
    parts = []
    for helper in nodes:
        parts.extend(part_for(code, node, cluster.held[helper]))
    answer = again(code, node, nodes, parts)
    if answer[0] < 0:
        return answer
    cluster.held[node] = answer[1:]
    return [0]


def edit(cluster, i, difference):
    """Change all nodes that aren't lost by the difference at the document's row i."""
    code = cluster.code
    if i >= document_rows(code):
        return [NOT_LET]
    if len(difference) != code.width:
        return [UNFIT]
    nodes = nodes_left(cluster)
    for node in nodes:
        cluster.held[node] = changed_rows(code, node, cluster.held[node], i, difference)
    return [0]


def read(cluster, nodes):
    """The document that the nodes tell."""
    if is_missing(cluster.code, nodes):
        return [NO_SUCH]
    if has_lost(cluster, nodes):
        return [NOT_LET]
    return tell(cluster.code, nodes, rows_of_nodes(cluster, nodes))


def look(cluster):
    """Whether all nodes that aren't lost go together, and else the wrong one."""
    nodes = nodes_left(cluster)
    return wrong(cluster.code, nodes, rows_of_nodes(cluster, nodes))
