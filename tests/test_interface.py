"""How calls are handed in and answers given back, and what is kept."""

import inspect
import unittest

from spreadnodes import clusters
from spreadnodes.clusters import answers
from spreadnodes.codes import Code
from tests.reference import AGAIN, AGREE, BUILD, CHANGE, JUDGE, PART, STORE, TELL, WRONG, listed, parted, stored

CODE = [2, 3, 5, 1]
DOCUMENT = [1, 2, 3, 4, 5]


def one_of_each():
    rows = [stored(tuple(CODE), node, DOCUMENT) for node in range(5)]
    every = [byte for one in rows for byte in one]
    return [
        (listed(JUDGE, CODE), [0, 5, 3]),
        (listed(STORE, CODE + [1], DOCUMENT), [3, 9, 30, 9]),
        (listed(TELL, CODE, [1, 4], rows[1] + rows[4]), [5, 1, 2, 3, 4, 5]),
        (listed(PART, CODE + [2], rows[0]), [1, 0x1B]),
        (listed(AGAIN, CODE + [2], [0, 1, 3], [0x1B, 6, 0xB4]), [3, 8, 31, 12]),
        (listed(AGREE, CODE + [0, 3], rows[0], rows[3]), [1]),
        (listed(CHANGE, CODE + [0, 0], rows[0], [1]), [0, 1, 3, 6]),
        (listed(WRONG, CODE, [0, 1, 2, 3, 4], every), [0]),
        (listed(BUILD, [1] + CODE, DOCUMENT), [0]),
        (listed(BUILD, [2] + CODE, DOCUMENT), [-1]),
    ]


class Interface(unittest.TestCase):
    def test_names(self):
        self.assertEqual(list(inspect.signature(answers).parameters), ["calls"])

    def test_no_calls(self):
        self.assertEqual(answers([]), [])

    def test_count_stands_before_each_answer(self):
        self.assertEqual(answers([0, 2, 3, 5, 1]), [3, 0, 5, 3])
        self.assertEqual(answers([0, 0, 1, 2, 1, 0, 1, 1, 2, 1]), [1, -1, 3, 0, 1, 1])

    def test_several_calls_in_one_list(self):
        pairs = one_of_each()
        for some in (pairs, pairs[::-1], pairs * 3):
            calls = [number for call, _ in some for number in call]
            self.assertEqual(parted(answers(calls)), [answer for _, answer in some])

    def test_a_refused_call_is_read_to_its_end(self):
        calls = listed(TELL, [0, 0, 0, 0], [7, 7, 7], [1] * 50) + listed(AGREE, CODE + [9, 9], [], [1]) + [0, 2, 3, 5, 1]
        self.assertEqual(answers(calls), [1, -1, 1, -1, 3, 0, 5, 3])

    def test_handed_in_list_is_as_it_was(self):
        calls = [number for call, _ in one_of_each() for number in call]
        before = list(calls)
        answers(calls)
        self.assertEqual(calls, before)

    def test_handed_in_list_is_never_written(self):
        class Sealed(list):
            def refuse(self, *args):
                raise AssertionError("what is handed in is changed")

            __setitem__ = __delitem__ = __iadd__ = __imul__ = refuse
            append = extend = insert = pop = remove = clear = sort = reverse = refuse

        pairs = one_of_each()
        given = answers(Sealed(number for call, _ in pairs for number in call))
        self.assertEqual(parted(given), [answer for _, answer in pairs])

    def test_kinds(self):
        calls = [number for call, _ in one_of_each() for number in call]
        given = answers(calls)
        self.assertIs(type(given), list)
        self.assertEqual({type(number) for number in given}, {int})

    def test_nothing_is_kept(self):
        calls = [number for call, _ in one_of_each() for number in call]
        first = answers(calls)
        first_as_it_was = list(first)
        second = answers(calls)
        self.assertEqual(first, second)
        second.clear()
        self.assertEqual(first, first_as_it_was)
        self.assertEqual(answers(calls), first)

    def test_as_many_calls_as_are_let(self):
        self.assertEqual(answers([0, 2, 3, 5, 1] * 300), [3, 0, 5, 3] * 300)
        most = listed(WRONG, [6, 6, 9, 64], list(range(9)), [0] * 3456)
        self.assertEqual(answers(most * 8), [1, 0] * 8)


class Built(unittest.TestCase):
    def code(self):
        return Code(*CODE)

    def test_all_nodes_are_kept(self):
        kept = [None, None]
        self.assertEqual(clusters.build(kept, 1, self.code(), DOCUMENT), [0])
        self.assertIsNone(kept[0])
        self.assertEqual(kept[1].held, [stored(tuple(CODE), node, DOCUMENT) for node in range(5)])
        code = kept[1].code
        self.assertEqual([code.k, code.d, code.n, code.width], CODE)

    def test_in_place_of_what_it_was(self):
        kept = [None, None]
        clusters.build(kept, 0, self.code(), DOCUMENT)
        self.assertEqual(clusters.build(kept, 0, Code(1, 1, 2, 2), [8, 9]), [0])
        self.assertEqual(kept[0].held, [[8, 9], [8, 9]])
        self.assertEqual(kept[0].code.n, 2)

    def test_a_refusal_changes_nothing(self):
        kept = [None, None]
        clusters.build(kept, 0, self.code(), DOCUMENT)
        before = list(kept)
        held = [list(rows) for rows in kept[0].held]
        for which, code, document in ((0, Code(0, 1, 2, 1), [0]), (0, self.code(), [1]), (2, self.code(), DOCUMENT)):
            self.assertLess(clusters.build(kept, which, code, document)[0], 0)
            self.assertEqual(kept, before)
            self.assertEqual(kept[0].held, held)


if __name__ == "__main__":
    unittest.main()
