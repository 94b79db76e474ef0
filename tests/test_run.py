"""The run that DOC.md shows, whole, and its ends."""

import unittest

from spreadnodes.clusters import answers
from tests.reference import AGAIN, AGREE, BUILD, JUDGE, LOOK, LOSE, MEND, NODE, PART, READ, SPOIL, STATE, STORE, TELL
from tests.reference import WRONG, asked, asked_all

CODE = [2, 3, 5, 1]
DOCUMENT = [1, 2, 3, 4, 5]
NODES = [list(bytes.fromhex(rows)) for rows in ("000306", "091E09", "081F0C", "394217", "384312")]


class Run(unittest.TestCase):
    def test_judge(self):
        self.assertEqual(asked(JUDGE, CODE), [0, 5, 3])

    def test_five_nodes(self):
        for node, rows in enumerate(NODES):
            self.assertEqual(asked(STORE, CODE + [node], DOCUMENT), [3] + rows)

    def test_parts_for_node_2(self):
        for node, byte in ((0, 0x1B), (1, 0x06), (3, 0xB4)):
            self.assertEqual(asked(PART, CODE + [2], NODES[node]), [1, byte])

    def test_made_again(self):
        self.assertEqual(asked(AGAIN, CODE + [2], [0, 1, 3], [0x1B, 0x06, 0xB4]), [3, 0x08, 0x1F, 0x0C])

    def test_told_by_1_and_4(self):
        self.assertEqual(asked(TELL, CODE, [1, 4], NODES[1] + NODES[4]), [5] + DOCUMENT)

    def test_node_1_spoilt_is_the_wrong_one(self):
        spoilt = [NODES[1][0] ^ 1] + NODES[1][1:]
        rows = NODES[0] + spoilt + NODES[2] + NODES[3] + NODES[4]
        self.assertEqual(asked(WRONG, CODE, [0, 1, 2, 3, 4], rows), [1, 1])
        self.assertEqual(asked(AGREE, CODE + [0, 1], NODES[0], spoilt), [0])
        self.assertEqual(asked(AGREE, CODE + [0, 1], NODES[0], NODES[1]), [1])

    def test_built_lost_mended_spoilt_in_one_list(self):
        run = [
            ((BUILD, [0] + CODE, DOCUMENT), [0]),
            ((LOSE, [0, 2]), [0]),
            ((STATE, [0]), [0, 2, 3, 5, 1, 0, 1, 3, 4]),
            ((MEND, [0, 2], [0, 1, 3]), [0]),
            ((NODE, [0, 2]), [0, 0x08, 0x1F, 0x0C]),
            ((LOOK, [0]), [0]),
            ((SPOIL, [0, 1, 0], [0x01]), [0]),
            ((LOOK, [0]), [1, 1]),
        ]
        self.assertEqual(asked_all([call for call, _ in run]), [answer for _, answer in run])

    def test_built_has_the_five_nodes(self):
        given = asked_all([(BUILD, [1] + CODE, DOCUMENT)] + [(NODE, [1, node]) for node in range(5)])
        self.assertEqual(given[1:], [[0] + rows for rows in NODES])

    def test_as_numbers(self):
        calls = [8, 0, 2, 3, 5, 1, 5, 1, 2, 3, 4, 5, 11, 0, 2, 9, 0, 13, 0, 2, 3, 0, 1, 3, 10, 0, 2, 12, 0, 1, 0, 1, 1, 16, 0]
        given = [1, 0, 1, 0, 9, 0, 2, 3, 5, 1, 0, 1, 3, 4, 1, 0, 4, 0, 8, 31, 12, 1, 0, 2, 1, 1]
        self.assertEqual(answers(calls), given)

    def test_ends(self):
        self.assertEqual(asked(JUDGE, [0, 1, 2, 1]), [-1])
        self.assertEqual(asked(BUILD, [0, 0, 1, 2, 1], [0]), [-1])
        self.assertEqual(asked(TELL, CODE, [1], NODES[1]), [-5])
        self.assertEqual(asked_all([(BUILD, [0] + CODE, DOCUMENT), (READ, [0], [1])])[1], [-5])
        self.assertEqual(asked(NODE, [0, 2]), [-3])
        self.assertEqual(asked(NODE, [1, 2]), [-3])
        self.assertEqual(asked(NODE, [2, 2]), [-1])
        self.assertEqual(asked(STATE, [2]), [-1])
        self.assertEqual(asked(BUILD, [2] + CODE, DOCUMENT), [-1])


if __name__ == "__main__":
    unittest.main()
