"""What a code is, and how much it holds."""


class Code:
    """Four numbers, which may be no code; width is how many bytes a row has."""

    def __init__(self, k, d, n, width):
        self.k = k
        self.d = d
        self.n = n
        self.width = width


def is_code(code):
    """Whether the four numbers are a code."""
    return 1 <= code.k <= code.d < code.n <= 9 and code.d <= 6 and 1 <= code.width <= 64


def rows_above(code, i):
    """How many of a document's rows the square has first above its row i, which is at most k."""
    return i * code.d - i * (i - 1) // 2


def document_rows(code):
    """How many rows a document has."""
    return rows_above(code, code.k)


def document_bytes(code):
    """How many bytes a document has."""
    return document_rows(code) * code.width


def node_bytes(code):
    """How many bytes a node has."""
    return code.d * code.width


def place_of(node):
    """Where the node stands in the field."""
    return node + 1


def cut(row, length):
    """The pieces of this length that stand one behind another in the row."""
    return [row[start:start + length] for start in range(0, len(row), length)]
