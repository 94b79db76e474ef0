"""The two objects beside one another, a build in place of what was there, and lists that keep nothing."""

import unittest

from tests.reference import BUILD, EDIT, LOOK, LOSE, MEND, NODE, READ, SPOIL, STATE, asked_all, held_rows, stored

SMALL = [2, 3, 5, 1]
WIDE = [1, 2, 4, 3]
ONE = [1, 2, 3, 4, 5]
OTHER = [200, 100, 50, 25, 12, 6]


def nodes_of(code, document):
    return [[0] + stored(tuple(code), node, document) for node in range(code[2])]


def all_nodes(which, code):
    return [(NODE, [which, node]) for node in range(code[2])]


class Beside(unittest.TestCase):
    def test_each_has_its_own(self):
        given = asked_all(
            [(BUILD, [0] + SMALL, ONE), (BUILD, [1] + WIDE, OTHER), (STATE, [0]), (STATE, [1])]
            + all_nodes(0, SMALL) + all_nodes(1, WIDE)
        )
        self.assertEqual(given[2:4], [[0, *SMALL, 0, 1, 2, 3, 4], [0, *WIDE, 0, 1, 2, 3]])
        self.assertEqual(given[4:], nodes_of(SMALL, ONE) + nodes_of(WIDE, OTHER))

    def test_one_built_leaves_the_other_unbuilt(self):
        for which in (0, 1):
            given = asked_all([(BUILD, [which] + SMALL, ONE), (STATE, [1 - which]), (LOOK, [1 - which]), (LOOK, [which])])
            self.assertEqual(given, [[0], [-3], [-3], [0]])

    def test_what_is_done_to_one_leaves_the_other(self):
        for which in (0, 1):
            done = [
                (LOSE, [which, 0]), (SPOIL, [which, 1, 0], [9]), (EDIT, [which, 4], [77]), (MEND, [which, 0], [2, 3, 4]),
                (LOSE, [which, 2]),
            ]
            # The same document in both, so that rows held in common would show.
            given = asked_all(
                [(BUILD, [0] + SMALL, ONE), (BUILD, [1] + SMALL, ONE)] + done
                + [(STATE, [1 - which]), (LOOK, [1 - which]), (READ, [1 - which], [1, 2])] + all_nodes(1 - which, SMALL)
            )
            self.assertEqual(given[2:7], [[0]] * 5)
            self.assertEqual(given[7:10], [[0, *SMALL, 0, 1, 2, 3, 4], [0], [5] + ONE])
            self.assertEqual(given[10:], nodes_of(SMALL, ONE))

    def test_turn_by_turn(self):
        given = asked_all([
            (BUILD, [1] + WIDE, OTHER), (LOSE, [1, 3]), (BUILD, [0] + SMALL, ONE), (LOSE, [0, 3]), (LOSE, [0, 4]),
            (LOSE, [1, 0]), (STATE, [0]), (STATE, [1]), (NODE, [1, 4]), (NODE, [0, 4]), (LOOK, [0]), (LOOK, [1]),
            (READ, [1], [1]), (READ, [0], [1]),
        ])
        self.assertEqual(given[6:12], [[0, *SMALL, 0, 1, 2], [0, *WIDE, 1, 2], [-1], [-4], [-5], [-5]])
        self.assertEqual(given[12:], [[2] + OTHER, [-5]])


class InPlace(unittest.TestCase):
    def test_built_anew(self):
        for which in (0, 1):
            spoilt = [(LOSE, [which, 0]), (SPOIL, [which, 1, 0], [9]), (EDIT, [which, 4], [77])]
            given = asked_all(
                [(BUILD, [which] + SMALL, ONE)] + spoilt + [(BUILD, [which] + WIDE, OTHER), (STATE, [which])]
                + all_nodes(which, WIDE) + [(NODE, [which, 4]), (LOOK, [which]), (READ, [which], [3])]
            )
            self.assertEqual(given[4:6], [[0], [0, *WIDE, 0, 1, 2, 3]])
            self.assertEqual(given[6:], nodes_of(WIDE, OTHER) + [[-1], [0], [2] + OTHER])

    def test_the_same_again_is_whole(self):
        given = asked_all(
            [(BUILD, [0] + SMALL, ONE), (LOSE, [0, 3]), (SPOIL, [0, 1, 2], [1]), (BUILD, [0] + SMALL, ONE), (STATE, [0])]
            + all_nodes(0, SMALL)
        )
        self.assertEqual(given[4:], [[0, *SMALL, 0, 1, 2, 3, 4]] + nodes_of(SMALL, ONE))

    def test_a_refused_build_leaves_what_was_there(self):
        for refused, number in (
            ((BUILD, [0, 0, 1, 2, 1], [0]), -1), ((BUILD, [0] + SMALL, ONE[1:]), -5), ((BUILD, [0] + SMALL, ONE + [6]), -5),
            ((BUILD, [2] + WIDE, OTHER), -1), ((BUILD, [0] + WIDE, OTHER[1:]), -5), ((BUILD, [0] + WIDE, []), -5),
        ):
            given = asked_all(
                [(BUILD, [0] + SMALL, ONE), (LOSE, [0, 3]), refused, (STATE, [0]), (STATE, [1])] + all_nodes(0, SMALL)
            )
            due = nodes_of(SMALL, ONE)
            due[3] = [-4]
            self.assertEqual(given[2:], [[number], [0, *SMALL, 0, 1, 2, 4], [-3]] + due)

    def test_every_largest_in_turn(self):
        for code in ([6, 6, 9, 64], [1, 1, 2, 1], [1, 6, 9, 64], [6, 6, 7, 64]):
            document = [at * 7 % 256 for at in range(held_rows(code) * code[3])]
            calls = [(BUILD, [1] + SMALL, ONE), (LOSE, [1, 1]), (BUILD, [1] + code, document)] + all_nodes(1, code)
            self.assertEqual(asked_all(calls)[3:], nodes_of(code, document))


class NewAtTheBeginning(unittest.TestCase):
    def test_nothing_is_built_in_the_next_list(self):
        asked_all([(BUILD, [0] + SMALL, ONE), (BUILD, [1] + WIDE, OTHER)])
        self.assertEqual(asked_all([(STATE, [0]), (STATE, [1]), (NODE, [0, 0])]), [[-3]] * 3)

    def test_nothing_is_lost_spoilt_or_edited_in_the_next_list(self):
        calls = [(BUILD, [0] + SMALL, ONE), (STATE, [0]), (LOOK, [0])] + all_nodes(0, SMALL)
        calls += [(SPOIL, [0, 1, 0], [1]), (EDIT, [0, 0], [8]), (LOSE, [0, 4])]
        first = asked_all(calls)
        self.assertEqual(asked_all(calls), first)
        self.assertEqual(first[3:8], nodes_of(SMALL, ONE))


if __name__ == "__main__":
    unittest.main()
