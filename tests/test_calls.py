"""Each of the calls 0 to 8: what it answers, what it refuses, and which refusal comes first."""

import unittest
from itertools import product as every_choice

from tests.reference import AGAIN, AGREE, BUILD, CHANGE, JUDGE, PART, STORE, TELL, WRONG, asked, expected, stored

MOST = 4294967295
CODE = [2, 3, 5, 2]
DOCUMENT = [11, 22, 33, 44, 55, 66, 77, 88, 99, 110]
NODES = [stored(tuple(CODE), node, DOCUMENT) for node in range(5)]
NO_CODES = (
    [0, 1, 2, 1], [2, 1, 3, 1], [2, 2, 2, 1], [1, 3, 2, 1], [1, 1, 10, 1], [1, 7, 8, 1], [7, 7, 9, 1],
    [1, 1, 2, 0], [1, 1, 2, 65], [0, 0, 0, 0], [1, 0, 2, 1], [MOST, MOST, MOST, MOST], [1, 1, MOST, 1], [1, 1, 2, MOST],
)


def rows_of(nodes):
    return [byte for node in nodes for byte in NODES[node]]


def parts_for(node, nodes):
    return [byte for other in nodes for byte in asked(PART, CODE + [node], NODES[other])[1:]]


class Judge(unittest.TestCase):
    def test_codes(self):
        for code, rows, each in (
            ([1, 1, 2, 1], 1, 1), ([1, 6, 7, 64], 6, 384), ([6, 6, 7, 64], 21, 384), ([6, 6, 9, 1], 21, 6),
            ([2, 3, 5, 1], 5, 3), ([3, 5, 9, 10], 12, 50), ([1, 1, 9, 64], 1, 64),
        ):
            self.assertEqual(asked(JUDGE, code), [0, rows, each])

    def test_no_codes(self):
        for code in NO_CODES:
            self.assertEqual(asked(JUDGE, code), [-1], code)

    def test_every_small_choice(self):
        for code in every_choice(range(9), range(9), range(12), (0, 1, 64, 65)):
            self.assertEqual(asked(JUDGE, code), expected(JUDGE, code), code)


class Store(unittest.TestCase):
    def test_rows(self):
        for node in range(5):
            self.assertEqual(asked(STORE, CODE + [node], DOCUMENT), [3] + NODES[node])

    def test_no_code(self):
        for code in NO_CODES:
            self.assertEqual(asked(STORE, code + [0], [0]), [-1])

    def test_no_node(self):
        for node in (5, 6, MOST):
            self.assertEqual(asked(STORE, CODE + [node], DOCUMENT), [-1])

    def test_length(self):
        for document in ([], DOCUMENT[:-1], DOCUMENT + [0], DOCUMENT[:5]):
            self.assertEqual(asked(STORE, CODE + [4], document), [-5])

    def test_node_before_length(self):
        self.assertEqual(asked(STORE, CODE + [5], []), [-1])


class Tell(unittest.TestCase):
    def test_document(self):
        for nodes in ([0, 1], [3, 4], [0, 4], [0, 2, 3], [0, 1, 2, 3, 4]):
            self.assertEqual(asked(TELL, CODE, nodes, rows_of(nodes)), [5] + DOCUMENT)

    def test_no_code(self):
        for code in NO_CODES:
            self.assertEqual(asked(TELL, code, [0], [0]), [-1])

    def test_no_node(self):
        self.assertEqual(asked(TELL, CODE, [0, 5], rows_of([0, 1])), [-1])
        self.assertEqual(asked(TELL, CODE, [MOST, 0], rows_of([0, 1])), [-1])

    def test_too_few(self):
        self.assertEqual(asked(TELL, CODE, [], []), [-5])
        self.assertEqual(asked(TELL, CODE, [3], rows_of([3])), [-5])

    def test_length(self):
        rows = rows_of([0, 1])
        for wrong_rows in ([], rows[:-1], rows + [0], rows[:6], rows_of([0, 1, 2])):
            self.assertEqual(asked(TELL, CODE, [0, 1], wrong_rows), [-5])

    def test_not_rising(self):
        self.assertEqual(asked(TELL, CODE, [1, 0], rows_of([1, 0])), [-5])
        self.assertEqual(asked(TELL, CODE, [1, 1], rows_of([1, 1])), [-5])
        self.assertEqual(asked(TELL, CODE, [0, 2, 2], rows_of([0, 2, 2])), [-5])
        self.assertEqual(asked(TELL, CODE, [0, 1] * 20, rows_of([0, 1] * 20)), [-5])

    def test_apart(self):
        self.assertEqual(asked(TELL, CODE, [0, 1], rows_of([0, 2])), [-9])

    def test_order(self):
        self.assertEqual(asked(TELL, CODE, [5], []), [-1])
        self.assertEqual(asked(TELL, CODE, [7, 2], [1]), [-1])
        self.assertEqual(asked(TELL, CODE, [0, 1], rows_of([0, 2])[:-1]), [-5])
        self.assertEqual(asked(TELL, CODE, [1, 0], rows_of([0, 2])), [-5])


class Part(unittest.TestCase):
    def test_part(self):
        self.assertEqual(asked(PART, [1, 1, 2, 1, 1], [9]), [1, 9])
        self.assertEqual(asked(PART, [1, 2, 3, 1, 0], [9, 3]), [1, 10])
        self.assertEqual(asked(PART, [1, 2, 3, 1, 1], [9, 3]), [1, 15])
        for node in range(5):
            self.assertEqual(asked(PART, CODE + [node], NODES[1]), expected(PART, CODE + [node], NODES[1]))

    def test_refused(self):
        for code in NO_CODES:
            self.assertEqual(asked(PART, code + [0], [0]), [-1])
        for node in (5, MOST):
            self.assertEqual(asked(PART, CODE + [node], NODES[0]), [-1])
        for rows in ([], NODES[0][:-1], NODES[0] + [0]):
            self.assertEqual(asked(PART, CODE + [0], rows), [-5])
        self.assertEqual(asked(PART, CODE + [5], []), [-1])


class Again(unittest.TestCase):
    def test_made_again(self):
        for node, nodes in ((0, [1, 2, 3]), (2, [0, 1, 3, 4]), (4, [0, 2, 3])):
            self.assertEqual(asked(AGAIN, CODE + [node], nodes, parts_for(node, nodes)), [3] + NODES[node])

    def test_no_code(self):
        for code in NO_CODES:
            self.assertEqual(asked(AGAIN, code + [0], [1], [0]), [-1])

    def test_no_node(self):
        parts = parts_for(0, [1, 2, 3])
        self.assertEqual(asked(AGAIN, CODE + [5], [1, 2, 3], parts), [-1])
        self.assertEqual(asked(AGAIN, CODE + [0], [1, 2, 5], parts), [-1])

    def test_node_itself(self):
        self.assertEqual(asked(AGAIN, CODE + [2], [1, 2, 3], parts_for(2, [1, 2, 3])), [-4])
        self.assertEqual(asked(AGAIN, CODE + [4], [0, 1, 3, 4], parts_for(4, [0, 1, 3, 4])), [-4])

    def test_too_few(self):
        for nodes in ([], [1], [1, 2]):
            self.assertEqual(asked(AGAIN, CODE + [0], nodes, parts_for(0, nodes)), [-5])

    def test_length(self):
        parts = parts_for(0, [1, 2, 3])
        for wrong_parts in ([], parts[:-1], parts + [0], rows_of([1, 2, 3])):
            self.assertEqual(asked(AGAIN, CODE + [0], [1, 2, 3], wrong_parts), [-5])

    def test_not_rising(self):
        for nodes in ([3, 2, 1], [1, 2, 2, 3], [1, 1, 1]):
            self.assertEqual(asked(AGAIN, CODE + [0], nodes, parts_for(0, nodes)), [-5])

    def test_apart(self):
        parts = parts_for(0, [1, 2, 3, 4])
        for at in range(len(parts)):
            spoilt = parts[:at] + [parts[at] ^ 1] + parts[at + 1:]
            self.assertEqual(asked(AGAIN, CODE + [0], [1, 2, 3, 4], spoilt), [-9])

    def test_order(self):
        self.assertEqual(asked(AGAIN, CODE + [5], [5], []), [-1])
        self.assertEqual(asked(AGAIN, CODE + [2], [2, 7], []), [-1])
        self.assertEqual(asked(AGAIN, CODE + [2], [2], []), [-4])
        self.assertEqual(asked(AGAIN, CODE + [2], [3, 2, 1], [9]), [-4])
        self.assertEqual(asked(AGAIN, CODE + [0], [1, 2, 4, 3], [1, 2, 3, 4, 5, 6, 7, 8]), [-5])


class Agree(unittest.TestCase):
    def test_every_two(self):
        for i in range(5):
            for j in range(5):
                self.assertEqual(asked(AGREE, CODE + [i, j], NODES[i], NODES[j]), [1])

    def test_one_node(self):
        for at in range(6):
            spoilt = NODES[1][:at] + [NODES[1][at] ^ 128] + NODES[1][at + 1:]
            self.assertEqual(asked(AGREE, CODE + [1, 1], NODES[1], spoilt), [0])
            self.assertEqual(asked(AGREE, CODE + [1, 1], spoilt, spoilt), [1])
            self.assertEqual(asked(AGREE, CODE + [1, 3], spoilt, NODES[3]), [0])

    def test_one_node_is_held_by_its_rows_not_its_parts(self):
        # Both have the part 0 for node 0, and still are not alike.
        self.assertEqual(asked(AGREE, [1, 2, 3, 1, 0, 0], [5, 5], [7, 7]), [0])

    def test_agreeing_needs_no_document(self):
        # Node 0's part for node 1 is 1 + 2 x 1, node 1's part for node 0 is 3 + 0.
        self.assertEqual(asked(AGREE, [2, 2, 3, 1, 0, 1], [1, 1], [3, 0]), [1])
        self.assertEqual(asked(AGREE, [1, 2, 3, 1, 0, 1], [1, 1], [3, 0]), [1])

    def test_refused(self):
        for code in NO_CODES:
            self.assertEqual(asked(AGREE, code + [0, 0], [0], [0]), [-1])
        for i, j in ((5, 0), (0, 5), (MOST, MOST)):
            self.assertEqual(asked(AGREE, CODE + [i, j], NODES[0], NODES[0]), [-1])
            self.assertEqual(asked(AGREE, CODE + [i, j], [], []), [-1])
        for short in ([], NODES[0][:-1], NODES[0] + [0]):
            self.assertEqual(asked(AGREE, CODE + [0, 1], short, NODES[1]), [-5])
            self.assertEqual(asked(AGREE, CODE + [1, 0], NODES[1], short), [-5])
            self.assertEqual(asked(AGREE, CODE + [0, 0], short, short), [-5])


class Change(unittest.TestCase):
    def test_every_row_of_every_node(self):
        for i in range(5):
            changed = DOCUMENT[:2 * i] + [DOCUMENT[2 * i] ^ 201, DOCUMENT[2 * i + 1] ^ 7] + DOCUMENT[2 * i + 2:]
            for node in range(5):
                due = stored(tuple(CODE), node, changed)
                self.assertEqual(asked(CHANGE, CODE + [node, i], NODES[node], [201, 7]), [0] + due)

    def test_no_difference(self):
        self.assertEqual(asked(CHANGE, CODE + [3, 4], NODES[3], [0, 0]), [0] + NODES[3])

    def test_refused(self):
        for code in NO_CODES:
            self.assertEqual(asked(CHANGE, code + [0, 0], [0], [0]), [-1])
        self.assertEqual(asked(CHANGE, CODE + [5, 0], NODES[0], [1, 1]), [-1])
        for i in (5, 6, MOST):
            self.assertEqual(asked(CHANGE, CODE + [0, i], NODES[0], [1, 1]), [-4])
        for rows, e in ((NODES[0][:-1], [1, 1]), (NODES[0] + [0], [1, 1]), (NODES[0], [1]), (NODES[0], [1, 1, 1])):
            self.assertEqual(asked(CHANGE, CODE + [0, 0], rows, e), [-5])
        self.assertEqual(asked(CHANGE, CODE + [0, 0], NODES[0] + [1], [1]), [-5])

    def test_order(self):
        self.assertEqual(asked(CHANGE, CODE + [5, 5], [], []), [-1])
        self.assertEqual(asked(CHANGE, CODE + [4, 5], [], []), [-4])


class Wrong(unittest.TestCase):
    def spoilt(self, nodes, *at):
        rows = rows_of(nodes)
        for place in at:
            rows[place] ^= 0x40
        return rows

    def test_going_together(self):
        for nodes in ([0, 1, 2, 3], [1, 2, 3, 4], [0, 1, 2, 3, 4]):
            self.assertEqual(asked(WRONG, CODE, nodes, rows_of(nodes)), [0])

    def test_each_wrong_one(self):
        for nodes in ([0, 1, 2, 3], [0, 1, 3, 4], [0, 1, 2, 3, 4]):
            for at in range(6 * len(nodes)):
                self.assertEqual(asked(WRONG, CODE, nodes, self.spoilt(nodes, at)), [1, nodes[at // 6]])

    def test_no_such_one(self):
        self.assertEqual(asked(WRONG, CODE, [0, 1, 2, 3], self.spoilt([0, 1, 2, 3], 0, 6)), [-9])
        self.assertEqual(asked(WRONG, CODE, [0, 1, 2, 3, 4], self.spoilt([0, 1, 2, 3, 4], 13, 29)), [-9])

    def test_no_code(self):
        for code in NO_CODES:
            self.assertEqual(asked(WRONG, code, [0, 1, 2], [0, 0, 0]), [-1])

    def test_no_node(self):
        self.assertEqual(asked(WRONG, CODE, [0, 1, 2, 5], rows_of([0, 1, 2, 3])), [-1])

    def test_too_few(self):
        for nodes in ([], [0], [0, 1], [0, 1, 2]):
            self.assertEqual(asked(WRONG, CODE, nodes, rows_of(nodes)), [-5])
        self.assertEqual(asked(WRONG, [1, 1, 2, 1], [0, 1], [3, 3]), [-5])

    def test_length(self):
        rows = rows_of([0, 1, 2, 3])
        for wrong_rows in ([], rows[:-1], rows + [0], rows[:-6]):
            self.assertEqual(asked(WRONG, CODE, [0, 1, 2, 3], wrong_rows), [-5])

    def test_not_rising(self):
        for nodes in ([3, 2, 1, 0], [0, 1, 2, 2], [0, 1, 3, 2]):
            self.assertEqual(asked(WRONG, CODE, nodes, rows_of(nodes)), [-5])

    def test_order(self):
        self.assertEqual(asked(WRONG, CODE, [5], []), [-1])
        self.assertEqual(asked(WRONG, CODE, [0, 1, 2], self.spoilt([0, 1, 2], 0, 7)), [-5])


class Build(unittest.TestCase):
    def test_built(self):
        for which in (0, 1):
            self.assertEqual(asked(BUILD, [which] + CODE, DOCUMENT), [0])

    def test_no_object(self):
        for which in (2, 3, MOST):
            self.assertEqual(asked(BUILD, [which] + CODE, DOCUMENT), [-1])

    def test_no_code(self):
        for code in NO_CODES:
            self.assertEqual(asked(BUILD, [0] + code, [0]), [-1])

    def test_length(self):
        for document in ([], DOCUMENT[:-1], DOCUMENT + [0]):
            self.assertEqual(asked(BUILD, [1] + CODE, document), [-5])

    def test_order(self):
        self.assertEqual(asked(BUILD, [2] + CODE, []), [-1])
        self.assertEqual(asked(BUILD, [0, 0, 1, 2, 1], []), [-1])


if __name__ == "__main__":
    unittest.main()
