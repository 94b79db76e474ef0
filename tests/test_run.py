"""The run that DOC.md shows, as far as the calls 0 to 8 go."""

import unittest

from tests.reference import AGAIN, AGREE, BUILD, JUDGE, PART, STORE, TELL, WRONG, asked

CODE = [2, 3, 5, 1]
DOCUMENT = [1, 2, 3, 4, 5]
NODES = [list(bytes.fromhex(rows)) for rows in ("000306", "091E09", "081F0C", "394217", "384312")]


class Run(unittest.TestCase):
    def test_judge(self):
        self.assertEqual(asked(JUDGE, CODE), [0, 5, 3])

    def test_five_nodes(self):
        for node, rows in enumerate(NODES):
            self.assertEqual(asked(STORE, CODE + [node], DOCUMENT), [3] + rows)

    def test_parts_for_node_2(self):
        for node, byte in ((0, 0x1B), (1, 0x06), (3, 0xB4)):
            self.assertEqual(asked(PART, CODE + [2], NODES[node]), [1, byte])

    def test_made_again(self):
        self.assertEqual(asked(AGAIN, CODE + [2], [0, 1, 3], [0x1B, 0x06, 0xB4]), [3, 0x08, 0x1F, 0x0C])

    def test_told_by_1_and_4(self):
        self.assertEqual(asked(TELL, CODE, [1, 4], NODES[1] + NODES[4]), [5] + DOCUMENT)

    def test_node_1_spoilt_is_the_wrong_one(self):
        spoilt = [NODES[1][0] ^ 1] + NODES[1][1:]
        rows = NODES[0] + spoilt + NODES[2] + NODES[3] + NODES[4]
        self.assertEqual(asked(WRONG, CODE, [0, 1, 2, 3, 4], rows), [1, 1])
        self.assertEqual(asked(AGREE, CODE + [0, 1], NODES[0], spoilt), [0])
        self.assertEqual(asked(AGREE, CODE + [0, 1], NODES[0], NODES[1]), [1])

    def test_built(self):
        self.assertEqual(asked(BUILD, [0] + CODE, DOCUMENT), [0])

    def test_ends(self):
        self.assertEqual(asked(JUDGE, [0, 1, 2, 1]), [-1])
        self.assertEqual(asked(TELL, CODE, [1], NODES[1]), [-5])
        self.assertEqual(asked(BUILD, [2] + CODE, DOCUMENT), [-1])


if __name__ == "__main__":
    unittest.main()
