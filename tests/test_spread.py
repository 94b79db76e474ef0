"""What is stored is told by every k nodes and more, and made again by every d others and more."""

import unittest
from itertools import combinations
from random import Random

from spreadnodes.clusters import answers
from tests.reference import AGAIN, AGREE, CHANGE, PART, STORE, TELL, WRONG, asked, held_rows, is_code, listed, parted
from tests.reference import stored

EVERY_CODE = [
    (k, d, n, 1) for d in range(1, 7) for k in range(1, d + 1) for n in range(d + 1, 10) if is_code((k, d, n, 1))
]
SOME_CODES = [
    (1, 1, 2, 1), (1, 1, 9, 3), (1, 6, 9, 1), (2, 2, 4, 64), (2, 3, 5, 1), (3, 3, 7, 2), (3, 6, 9, 1), (4, 5, 8, 1),
    (5, 6, 8, 2), (6, 6, 7, 64), (6, 6, 9, 1),
]


class Spread:
    """A document of the code, and its nodes' rows as the program stores them."""

    def __init__(self, code):
        self.code = list(code)
        chance = Random(str(code))
        self.document = [chance.randrange(256) for _ in range(held_rows(code) * code[3])]
        calls = [number for node in range(code[2]) for number in listed(STORE, self.code + [node], self.document)]
        self.rows = [answer[1:] for answer in parted(answers(calls))]

    def rows_of(self, nodes):
        return [byte for node in nodes for byte in self.rows[node]]

    def parts_for(self, node, nodes):
        return [byte for other in nodes for byte in asked(PART, self.code + [node], self.rows[other])[1:]]


def sets(nodes, *sizes):
    return [list(chosen) for size in sizes for chosen in combinations(nodes, size)]


class Told(unittest.TestCase):
    def hold(self, spread, nodes):
        due = [held_rows(spread.code)] + spread.document
        self.assertEqual(asked(TELL, spread.code, nodes, spread.rows_of(nodes)), due, (spread.code, nodes))

    def test_by_every_k_and_by_all_of_every_code(self):
        self.assertEqual(len(EVERY_CODE), 98)
        for code in EVERY_CODE:
            spread = Spread(code)
            for nodes in sets(range(code[2]), code[0], code[2]):
                self.hold(spread, nodes)

    def test_by_every_k_and_more(self):
        for code in SOME_CODES:
            spread = Spread(code)
            for nodes in sets(range(code[2]), *range(code[0], code[2] + 1)):
                self.hold(spread, nodes)

    def test_longest_rows(self):
        for code in ((1, 6, 9, 64), (3, 5, 9, 64), (6, 6, 9, 64)):
            spread = Spread(code)
            for node in range(9):
                self.assertEqual(spread.rows[node], stored(code, node, spread.document))
            for nodes in (list(range(code[0])), list(range(9 - code[0], 9)), list(range(9))):
                self.hold(spread, nodes)


class MadeAgain(unittest.TestCase):
    def hold(self, spread, node, sizes):
        others = [other for other in range(spread.code[2]) if other != node]
        parts = {other: spread.parts_for(node, [other]) for other in others}
        for nodes in sets(others, *sizes):
            given = [byte for other in nodes for byte in parts[other]]
            answer = asked(AGAIN, spread.code + [node], nodes, given)
            self.assertEqual(answer, [spread.code[1]] + spread.rows[node], (spread.code, node, nodes))

    def test_by_every_d_and_by_all_others_of_every_code(self):
        for code in EVERY_CODE:
            spread = Spread(code)
            for node in range(code[2]):
                self.hold(spread, node, (code[1], code[2] - 1))

    def test_by_every_d_and_more(self):
        for code in SOME_CODES:
            spread = Spread(code)
            for node in range(code[2]):
                self.hold(spread, node, range(code[1], code[2]))

    def test_d_parts_always_go_together(self):
        self.assertEqual(asked(AGAIN, [2, 2, 4, 1, 3], [0, 1], [5, 9])[0], 2)
        self.assertEqual(asked(AGAIN, [1, 1, 2, 1, 0], [1], [200]), [1, 200])


class AgreedAndChanged(unittest.TestCase):
    def test_every_two_nodes_agree(self):
        for code in EVERY_CODE:
            spread = Spread(code)
            for i in range(code[2]):
                for j in range(code[2]):
                    self.assertEqual(asked(AGREE, spread.code + [i, j], spread.rows[i], spread.rows[j]), [1])

    def test_changed_rows_are_those_of_the_changed_document(self):
        for code in SOME_CODES:
            spread = Spread(code)
            size = code[3]
            e = [(7 * at + 1) % 256 for at in range(size)]
            for i in range(held_rows(code)):
                document = list(spread.document)
                document[i * size:(i + 1) * size] = [a ^ b for a, b in zip(document[i * size:], e)]
                for node in range(code[2]):
                    answer = asked(CHANGE, spread.code + [node, i], spread.rows[node], e)
                    due = asked(STORE, spread.code + [node], document)[1:]
                    self.assertEqual(answer, [0] + due)


class WrongOne(unittest.TestCase):
    def test_each_that_alone_is_wrong(self):
        for code in EVERY_CODE:
            k, d, n, _ = code
            spread = Spread(code)
            for size in sorted({k + 2, n}) if k + 2 <= n else []:
                for nodes in sets(range(n), size)[:5]:
                    rows = spread.rows_of(nodes)
                    self.assertEqual(asked(WRONG, spread.code, nodes, rows), [0])
                    for at in range(0, len(rows), 1 if d < 3 else 5):
                        spoilt = rows[:at] + [rows[at] ^ (at % 255 + 1)] + rows[at + 1:]
                        self.assertEqual(asked(WRONG, spread.code, nodes, spoilt), [1, nodes[at // d]])

    def test_one_wrong_in_all_its_rows(self):
        for code in ((1, 1, 3, 1), (2, 3, 5, 64), (6, 6, 9, 64), (1, 6, 9, 64)):
            k, d, n, size = code
            spread = Spread(code)
            nodes = list(range(n))
            for node in nodes:
                rows = spread.rows_of(nodes)
                each = d * size
                rows[node * each:(node + 1) * each] = [byte ^ 0xA5 for byte in spread.rows[node]]
                self.assertEqual(asked(WRONG, spread.code, nodes, rows), [1, node])


if __name__ == "__main__":
    unittest.main()
