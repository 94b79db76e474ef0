"""How calls are handed in and answers given back, and what is kept."""

import inspect
import unittest

from spreadnodes.clusters import answers
from tests.reference import AGAIN, AGREE, BUILD, CHANGE, EDIT, JUDGE, LOOK, LOSE, MEND, NODE, PART, READ, SPOIL, STATE
from tests.reference import STORE, TELL, WRONG, listed, parted, stored

CODE = [2, 3, 5, 1]
DOCUMENT = [1, 2, 3, 4, 5]


def one_of_each():
    rows = [stored(tuple(CODE), node, DOCUMENT) for node in range(5)]
    every = [byte for one in rows for byte in one]
    return [
        (listed(JUDGE, CODE), [0, 5, 3]),
        (listed(STORE, CODE + [1], DOCUMENT), [3, 9, 30, 9]),
        (listed(TELL, CODE, [1, 4], rows[1] + rows[4]), [5, 1, 2, 3, 4, 5]),
        (listed(PART, CODE + [2], rows[0]), [1, 0x1B]),
        (listed(AGAIN, CODE + [2], [0, 1, 3], [0x1B, 6, 0xB4]), [3, 8, 31, 12]),
        (listed(AGREE, CODE + [0, 3], rows[0], rows[3]), [1]),
        (listed(CHANGE, CODE + [0, 0], rows[0], [1]), [0, 1, 3, 6]),
        (listed(WRONG, CODE, [0, 1, 2, 3, 4], every), [0]),
        (listed(BUILD, [1] + CODE, DOCUMENT), [0]),
        (listed(BUILD, [2] + CODE, DOCUMENT), [-1]),
    ]


def one_of_each_cluster_call():
    """A whole round on object 1; as it begins with a build, it may be asked once more behind itself."""
    return [
        (listed(BUILD, [1] + CODE, DOCUMENT), [0]),
        (listed(NODE, [1, 2]), [0, 8, 31, 12]),
        (listed(LOSE, [1, 2]), [0]),
        (listed(STATE, [1]), [0, 2, 3, 5, 1, 0, 1, 3, 4]),
        (listed(EDIT, [1, 0], [1]), [0]),
        (listed(MEND, [1, 2], [0, 1, 3]), [0]),
        (listed(NODE, [1, 2]), [0, 9, 31, 12]),
        (listed(SPOIL, [1, 1, 0], [1]), [0]),
        (listed(LOOK, [1]), [1, 1]),
        (listed(READ, [1], [0, 1]), [-9]),
        (listed(READ, [1], [0, 2, 4]), [5, 0, 2, 3, 4, 5]),
    ]


def one_of_all():
    return one_of_each() + one_of_each_cluster_call()


class Interface(unittest.TestCase):
    def test_names(self):
        self.assertEqual(list(inspect.signature(answers).parameters), ["calls"])

    def test_no_calls(self):
        self.assertEqual(answers([]), [])

    def test_count_stands_before_each_answer(self):
        self.assertEqual(answers([0, 2, 3, 5, 1]), [3, 0, 5, 3])
        self.assertEqual(answers([0, 0, 1, 2, 1, 0, 1, 1, 2, 1]), [1, -1, 3, 0, 1, 1])

    def test_several_calls_in_one_list(self):
        pairs = one_of_each()
        cluster_pairs = one_of_each_cluster_call()
        for some in (pairs, pairs[::-1], pairs * 3, cluster_pairs * 3, pairs + cluster_pairs, cluster_pairs + pairs):
            calls = [number for call, _ in some for number in call]
            self.assertEqual(parted(answers(calls)), [answer for _, answer in some])

    def test_a_refused_call_is_read_to_its_end(self):
        calls = listed(TELL, [0, 0, 0, 0], [7, 7, 7], [1] * 50) + listed(AGREE, CODE + [9, 9], [], [1]) + [0, 2, 3, 5, 1]
        self.assertEqual(answers(calls), [1, -1, 1, -1, 3, 0, 5, 3])
        calls = listed(SPOIL, [0, 0, 0], [1] * 100) + listed(MEND, [7, 0], [16] * 40) + listed(EDIT, [1, 9], [0, 9])
        calls += listed(READ, [0], [15, 15, 15]) + listed(NODE, [0, 16]) + listed(LOSE, [0, 16]) + [9, 0, 16, 2]
        self.assertEqual(answers(calls), [1, -3, 1, -1, 1, -3, 1, -3, 1, -3, 1, -3, 1, -3, 1, -1])

    def test_handed_in_list_is_as_it_was(self):
        calls = [number for call, _ in one_of_all() for number in call]
        before = list(calls)
        answers(calls)
        self.assertEqual(calls, before)

    def test_handed_in_list_is_never_written(self):
        class Sealed(list):
            def refuse(self, *args):
                raise AssertionError("what is handed in is changed")

            __setitem__ = __delitem__ = __iadd__ = __imul__ = refuse
            append = extend = insert = pop = remove = clear = sort = reverse = refuse

        pairs = one_of_all()
        given = answers(Sealed(number for call, _ in pairs for number in call))
        self.assertEqual(parted(given), [answer for _, answer in pairs])

    def test_kinds(self):
        calls = [number for call, _ in one_of_all() for number in call]
        given = answers(calls)
        self.assertIs(type(given), list)
        self.assertEqual({type(number) for number in given}, {int})

    def test_nothing_is_kept(self):
        calls = [number for call, _ in one_of_all() for number in call]
        first = answers(calls)
        first_as_it_was = list(first)
        second = answers(calls)
        self.assertEqual(first, second)
        second.clear()
        self.assertEqual(first, first_as_it_was)
        self.assertEqual(answers(calls), first)

    def test_as_many_calls_as_are_let(self):
        self.assertEqual(answers([0, 2, 3, 5, 1] * 300), [3, 0, 5, 3] * 300)
        most = listed(WRONG, [6, 6, 9, 64], list(range(9)), [0] * 3456)
        self.assertEqual(answers(most * 8), [1, 0] * 8)


if __name__ == "__main__":
    unittest.main()
