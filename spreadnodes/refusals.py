"""The numbers that refuse a call, and what they are asked for."""

from spreadnodes.codes import is_code

NO_SUCH = -1
NOT_BUILT = -3
NOT_LET = -4
UNFIT = -5
APART = -9


def is_missing(code, nodes):
    """Whether the code is none, or one of the nodes isn't there."""
    return not is_code(code) or any([node >= code.n for node in nodes])


def is_rising(nodes):
    """Whether each node is above the one before it."""
    return all([nodes[at - 1] < nodes[at] for at in range(1, len(nodes))])


def is_unfit(nodes, fewest, row, bytes_each):
    """Whether the set doesn't rise, is too small, or the bytes are not so many for each of its nodes."""
    return not is_rising(nodes) or len(nodes) < fewest or len(row) != len(nodes) * bytes_each
