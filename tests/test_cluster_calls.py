"""Each of the calls 9 to 16: what it answers, what it refuses, which refusal comes first, and that it changes nothing."""

import unittest

from tests.reference import BUILD, EDIT, LOOK, LOSE, MEND, NODE, READ, SPOIL, STATE, asked, asked_all, stored

MOST = 4294967295
CODE = [2, 3, 6, 2]
DOCUMENT = [11, 22, 33, 44, 55, 66, 77, 88, 99, 110]
NODES = [stored(tuple(CODE), node, DOCUMENT) for node in range(6)]
BUILT = (BUILD, [0] + CODE, DOCUMENT)
# One call of each sort that a cluster of this code, with no node lost, lets.
LET = [
    (STATE, [0]), (NODE, [0, 5]), (LOSE, [0, 5]), (SPOIL, [0, 5, 2], [1, 2]), (MEND, [0, 5], [0, 1, 2]),
    (EDIT, [0, 4], [1, 2]), (READ, [0], [0, 1]), (LOOK, [0]),
]


def lost(*nodes):
    return [(LOSE, [0, node]) for node in nodes]


def everything(code=CODE):
    """Calls that together tell all that the two objects hold."""
    return [(STATE, [which]) for which in (0, 1)] + [(NODE, [which, f]) for which in (0, 1) for f in range(code[2])]


class Calls(unittest.TestCase):
    def after(self, before, call):
        """The answer to the call behind the others, each of which must be let, on a cluster of CODE."""
        *earlier, answer = asked_all([BUILT] + before + [call])
        self.assertEqual([one[0] for one in earlier if one[0] < 0], [])
        return answer

    def refused(self, number, before, call):
        """The call answers the number alone, and all is as if it had not been asked."""
        self.assertEqual(self.after(before, call), [number], call)
        with_it = asked_all([BUILT] + before + [call] + everything())
        without_it = asked_all([BUILT] + before + everything())
        self.assertEqual(with_it[len(before) + 2:], without_it[len(before) + 1:], call)

    def held(self, before):
        """Each node's rows, None if it answers that it is lost."""
        given = asked_all([BUILT] + before + [(NODE, [0, f]) for f in range(6)])[-6:]
        return [None if one == [-4] else one[1:] for one in given]


class EveryCall(Calls):
    def test_let(self):
        for call in LET:
            self.assertGreaterEqual(self.after([], call)[0], 0, call)

    def test_no_object(self):
        for number, whole, *lists in LET:
            for which in (2, 3, MOST):
                self.refused(-1, [], (number, [which] + whole[1:], *lists))
                self.assertEqual(asked(number, [which] + whole[1:], *lists), [-1])

    def test_not_built(self):
        for number, whole, *lists in LET:
            for which in (0, 1):
                self.assertEqual(asked(number, [which] + whole[1:], *lists), [-3])
            self.refused(-3, [], (number, [1] + whole[1:], *lists))

    def test_not_built_stands_behind_the_object_and_ahead_of_all_else(self):
        worst = [
            (NODE, [1, MOST]), (LOSE, [1, MOST]), (SPOIL, [1, MOST, MOST], []), (MEND, [1, MOST], [MOST, MOST]),
            (EDIT, [1, MOST], []), (READ, [1], [MOST, 0]), (READ, [1], []), (LOOK, [1]), (STATE, [1]),
        ]
        for number, whole, *lists in worst:
            self.refused(-3, [], (number, whole, *lists))
            self.refused(-1, [], (number, [2] + whole[1:], *lists))

    def test_a_refused_build_builds_nothing(self):
        for code, document in (([0, 1, 2, 1], [0]), (CODE, DOCUMENT[1:])):
            self.assertEqual(asked_all([(BUILD, [0] + code, document), (STATE, [0])])[1], [-3])


class State(Calls):
    def test_all_nodes(self):
        self.assertEqual(self.after([], (STATE, [0])), [0, 2, 3, 6, 2, 0, 1, 2, 3, 4, 5])

    def test_without_the_lost_in_order(self):
        self.assertEqual(self.after(lost(4, 0), (STATE, [0])), [0, 2, 3, 6, 2, 1, 2, 3, 5])

    def test_all_lost(self):
        self.assertEqual(self.after(lost(*range(6)), (STATE, [0])), [0, 2, 3, 6, 2])

    def test_mended_is_there_again_in_its_place(self):
        before = lost(1, 3) + [(MEND, [0, 1], [0, 2, 4])]
        self.assertEqual(self.after(before, (STATE, [0])), [0, 2, 3, 6, 2, 0, 1, 2, 4, 5])

    def test_spoilt_is_not_lost(self):
        before = [(SPOIL, [0, 1, 0], [9, 9])]
        self.assertEqual(self.after(before, (STATE, [0])), [0, 2, 3, 6, 2, 0, 1, 2, 3, 4, 5])


class Node(Calls):
    def test_rows(self):
        for f in range(6):
            self.assertEqual(self.after([], (NODE, [0, f])), [0] + NODES[f])

    def test_refused(self):
        for f in (6, 7, MOST):
            self.refused(-1, [], (NODE, [0, f]))
            self.refused(-1, lost(*range(6)), (NODE, [0, f]))
        for f in range(6):
            self.refused(-4, lost(f), (NODE, [0, f]))


class Lose(Calls):
    def test_lost_alone(self):
        for f in range(6):
            self.assertEqual(self.after([], (LOSE, [0, f])), [0])
            self.assertEqual(self.held(lost(f)), NODES[:f] + [None] + NODES[f + 1:])

    def test_every_node_may_be_lost(self):
        self.assertEqual(self.held(lost(3, 0, 5, 1, 4, 2)), [None] * 6)

    def test_refused(self):
        for f in (6, MOST):
            self.refused(-1, [], (LOSE, [0, f]))
            self.refused(-1, lost(*range(6)), (LOSE, [0, f]))
        for f in range(6):
            self.refused(-4, lost(f), (LOSE, [0, f]))

    def test_lost_again_once_mended(self):
        self.assertEqual(self.after(lost(2) + [(MEND, [0, 2], [0, 1, 3])], (LOSE, [0, 2])), [0])


class Spoil(Calls):
    def test_one_row_of_one_node(self):
        for f in range(6):
            for j in range(3):
                due = [list(rows) for rows in NODES]
                due[f][2 * j] ^= 200
                due[f][2 * j + 1] ^= 3
                self.assertEqual(self.after([], (SPOIL, [0, f, j], [200, 3])), [0])
                self.assertEqual(self.held([(SPOIL, [0, f, j], [200, 3])]), due)

    def test_twice_is_as_it_was(self):
        self.assertEqual(self.held([(SPOIL, [0, 4, 1], [255, 1])] * 2), NODES)

    def test_by_noughts(self):
        self.assertEqual(self.held([(SPOIL, [0, 4, 1], [0, 0])]), NODES)

    def test_no_node_or_row(self):
        for f, j in ((6, 0), (MOST, 0), (0, 3), (0, MOST), (6, 3)):
            self.refused(-1, [], (SPOIL, [0, f, j], [1, 2]))

    def test_lost(self):
        self.refused(-4, lost(4), (SPOIL, [0, 4, 0], [1, 2]))

    def test_length(self):
        for e in ([], [1], [1, 2, 3], [1] * 100):
            self.refused(-5, [], (SPOIL, [0, 4, 0], e))

    def test_order(self):
        self.refused(-1, lost(4), (SPOIL, [0, 4, 3], []))
        self.refused(-1, lost(4), (SPOIL, [0, 6, 0], []))
        self.refused(-4, lost(4), (SPOIL, [0, 4, 2], []))


class Mend(Calls):
    def test_lost(self):
        for f in range(6):
            others = [other for other in range(6) if other != f]
            for nodes in (others[:3], others[2:], others[1:], others):
                self.assertEqual(self.after(lost(f), (MEND, [0, f], nodes)), [0])
                self.assertEqual(self.held(lost(f) + [(MEND, [0, f], nodes)]), NODES)

    def test_not_lost(self):
        self.assertEqual(self.after([], (MEND, [0, 2], [0, 1, 3])), [0])
        self.assertEqual(self.held([(MEND, [0, 2], [0, 1, 3])]), NODES)

    def test_spoilt(self):
        before = [(SPOIL, [0, 2, 0], [1, 1]), (SPOIL, [0, 2, 2], [0, 77])]
        self.assertEqual(self.held(before + [(MEND, [0, 2], [3, 4, 5])]), NODES)

    def test_from_all_that_are_left(self):
        self.assertEqual(self.held(lost(0, 1, 5) + [(MEND, [0, 1], [2, 3, 4])]), [None] + NODES[1:5] + [None])

    def test_from_spoilt_ones_what_their_parts_make(self):
        # Of d parts alone there are always rows; they are those that again makes.
        before = [(SPOIL, [0, 0, 1], [5, 6])]
        rows = self.held(before + [(MEND, [0, 2], [0, 1, 3])])[2]
        parts = [byte for part in asked_all(
            [(3, CODE + [2], node) for node in (self.held(before)[0], NODES[1], NODES[3])]
        ) for byte in part[1:]]
        self.assertEqual([3] + rows, asked(4, CODE + [2], [0, 1, 3], parts))
        self.assertNotEqual(rows, NODES[2])

    def test_no_node(self):
        self.refused(-1, [], (MEND, [0, 6], [0, 1, 2]))
        self.refused(-1, [], (MEND, [0, MOST], [0, 1, 2]))
        self.refused(-1, [], (MEND, [0, 5], [0, 1, 6]))
        self.refused(-1, [], (MEND, [0, 5], [0, 1, 2, MOST]))

    def test_node_itself(self):
        self.refused(-4, [], (MEND, [0, 2], [0, 1, 2]))
        self.refused(-4, lost(2), (MEND, [0, 2], [0, 1, 2]))
        self.refused(-4, [], (MEND, [0, 2], [0, 1, 2, 3, 4, 5]))

    def test_lost_in_the_set(self):
        for f in (0, 1, 3):
            self.refused(-4, lost(f), (MEND, [0, 2], [0, 1, 3]))
            self.refused(-4, lost(2, f), (MEND, [0, 2], [0, 1, 3]))

    def test_too_few(self):
        for nodes in ([], [0], [0, 1]):
            self.refused(-5, lost(2), (MEND, [0, 2], nodes))

    def test_not_rising(self):
        for nodes in ([3, 1, 0], [0, 1, 1, 3], [0, 0, 0], [0, 1] * 20):
            self.refused(-5, lost(2), (MEND, [0, 2], nodes))

    def test_apart(self):
        for spoilt in (0, 1, 3, 5):
            self.refused(-9, lost(2) + [(SPOIL, [0, spoilt, 1], [0, 4])], (MEND, [0, 2], [0, 1, 3, 5]))
            self.refused(-9, [(SPOIL, [0, spoilt, 1], [0, 4])], (MEND, [0, 2], [0, 1, 3, 5]))

    def test_order(self):
        self.refused(-1, lost(1), (MEND, [0, 2], [2, 1, 6]))
        self.refused(-1, lost(1), (MEND, [0, 6], [1]))
        self.refused(-4, lost(1), (MEND, [0, 2], [1]))
        self.refused(-4, [], (MEND, [0, 2], [2]))
        self.refused(-4, [], (MEND, [0, 2], [3, 2, 1]))
        self.refused(-5, [(SPOIL, [0, 0, 0], [1, 0])], (MEND, [0, 2], [0, 1, 5, 3]))

    def test_a_part_that_is_as_it_was_is_no_matter(self):
        # Node 2 stands at 3, so node 0's part for it is other by 3 x 1 + 1 x 3, a nought.
        spoilt = [(SPOIL, [0, 0, 0], [3, 3]), (SPOIL, [0, 0, 1], [1, 1])]
        self.assertEqual(self.held(lost(2) + spoilt + [(MEND, [0, 2], [0, 1, 3, 4, 5])])[2], NODES[2])


class Edit(Calls):
    def changed(self, i):
        document = list(DOCUMENT)
        document[2 * i] ^= 150
        document[2 * i + 1] ^= 9
        return [stored(tuple(CODE), node, document) for node in range(6)]

    def test_all_nodes(self):
        for i in range(5):
            self.assertEqual(self.after([], (EDIT, [0, i], [150, 9])), [0])
            self.assertEqual(self.held([(EDIT, [0, i], [150, 9])]), self.changed(i))

    def test_lost_stay_lost(self):
        due = self.changed(3)
        self.assertEqual(self.held(lost(0, 4) + [(EDIT, [0, 3], [150, 9])]), [None] + due[1:4] + [None] + due[5:])

    def test_all_lost(self):
        self.assertEqual(self.after(lost(*range(6)), (EDIT, [0, 3], [150, 9])), [0])
        self.assertEqual(self.held(lost(*range(6)) + [(EDIT, [0, 3], [150, 9])]), [None] * 6)

    def test_spoilt_stay_spoilt(self):
        due = self.changed(1)
        due[2][5] ^= 1
        self.assertEqual(self.held([(SPOIL, [0, 2, 2], [0, 1]), (EDIT, [0, 1], [150, 9])]), due)

    def test_refused(self):
        for i in (5, 6, MOST):
            self.refused(-4, [], (EDIT, [0, i], [150, 9]))
            self.refused(-4, lost(2), (EDIT, [0, i], []))
        for e in ([], [1], [1, 2, 3], [1] * 100):
            self.refused(-5, [], (EDIT, [0, 4], e))
            self.refused(-5, lost(*range(6)), (EDIT, [0, 4], e))


class Read(Calls):
    def test_document(self):
        for nodes in ([0, 1], [4, 5], [0, 3, 5], [0, 1, 2, 3, 4, 5]):
            self.assertEqual(self.after([], (READ, [0], nodes)), [5] + DOCUMENT)

    def test_beside_lost_and_spoilt_ones(self):
        before = lost(0, 1, 2) + [(SPOIL, [0, 3, 0], [1, 0])]
        self.assertEqual(self.after(before, (READ, [0], [4, 5])), [5] + DOCUMENT)

    def test_nothing_is_changed(self):
        self.assertEqual(self.held([(READ, [0], [1, 4])]), NODES)

    def test_refused(self):
        for nodes in ([0, 6], [MOST, 0], [6]):
            self.refused(-1, [], (READ, [0], nodes))
        for nodes in ([0, 2], [2, 3], [1, 2, 3]):
            self.refused(-4, lost(2), (READ, [0], nodes))
        for nodes in ([], [3], [1, 0], [1, 1], [0, 2, 1], [0, 1] * 20):
            self.refused(-5, [], (READ, [0], nodes))
        for nodes in ([1, 2], [0, 1, 2], [2, 3, 4, 5]):
            self.refused(-9, [(SPOIL, [0, 2, 1], [0, 1])], (READ, [0], nodes))

    def test_order(self):
        self.refused(-1, lost(2), (READ, [0], [6, 2]))
        self.refused(-4, lost(2), (READ, [0], [2]))
        self.refused(-4, lost(2), (READ, [0], [3, 2]))
        self.refused(-5, [(SPOIL, [0, 2, 1], [0, 1])], (READ, [0], [3, 2]))
        self.refused(-5, [(SPOIL, [0, 2, 1], [0, 1])], (READ, [0], [2]))


class Look(Calls):
    def test_going_together(self):
        for gone in ((), (0,), (5,), (0, 3)):
            self.assertEqual(self.after(lost(*gone), (LOOK, [0])), [0])

    def test_the_wrong_one(self):
        for gone in ((), (0,), (5,), (0, 3)):
            for f in sorted(set(range(6)) - set(gone)):
                before = lost(*gone) + [(SPOIL, [0, f, 1], [0, 128])]
                self.assertEqual(self.after(before, (LOOK, [0])), [1, f])

    def test_a_lost_one_is_not_wrong(self):
        self.assertEqual(self.after([(SPOIL, [0, 1, 1], [0, 128])] + lost(1), (LOOK, [0])), [0])

    def test_nothing_is_changed(self):
        before = [(SPOIL, [0, 1, 1], [0, 128])]
        self.assertEqual(self.held(before + [(LOOK, [0])]), self.held(before))

    def test_too_few(self):
        self.refused(-5, lost(0, 1, 2), (LOOK, [0]))
        self.refused(-5, lost(*range(6)), (LOOK, [0]))
        self.assertEqual(asked_all([(BUILD, [1, 1, 1, 2, 1], [7]), (LOOK, [1])])[1], [-5])
        self.assertEqual(asked_all([(BUILD, [1, 6, 6, 7, 1], [7] * 21), (LOOK, [1])])[1], [-5])

    def test_no_such_one(self):
        two = [(SPOIL, [0, 1, 1], [0, 128]), (SPOIL, [0, 4, 0], [1, 0])]
        self.refused(-9, two, (LOOK, [0]))
        self.refused(-9, two + lost(0, 2), (LOOK, [0]))

    def test_order(self):
        self.refused(-5, lost(0, 1, 2) + [(SPOIL, [0, 3, 1], [0, 1])], (LOOK, [0]))


if __name__ == "__main__":
    unittest.main()
