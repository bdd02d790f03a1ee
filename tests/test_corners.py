"""The corners that the document names."""

import unittest

from telling import behind


class Corners(unittest.TestCase):
    def test_a_leaf_by_itself(self):
        self.assertEqual(behind([("leaf", 1, 12)], ("is_true", 0), ("right", 0), ("ends", 0)),
                         [[1], [0, 22, 25], [0]])
        self.assertEqual(behind([("leaf", 0, 12)], ("is_true", 0), ("right", 0), ("ends", 0)),
                         [[0], [0, 22, 25], [0]])

    def test_a_node_of_one_child(self):
        for name in ("all_of", "some_of"):
            for so in (0, 1):
                found = behind([("leaf", so, 35), (name, [0])], ("is_true", 1), ("right", 1), ("ends", 1))
                self.assertEqual(found, [[so], [0, 13, 20], [0]])

    def test_a_leaf_that_is_always_misread(self):
        setting = [("leaf", 1, 100), ("leaf", 0, 100), ("some_of", [0, 1])]
        found = behind(setting, ("right", 0), ("right", 1), ("right", 2), ("ends", 2),
                       ("thrice", 0), ("misread", 0), ("right", 0))
        self.assertEqual(found, [[0, 0, 1], [0, 0, 1], [0, 1, 1], [1], [1], [0, 1, 1], [0, 0, 1]])

    def test_a_leaf_misread_half_the_time(self):
        found = behind([("leaf", 0, 50)], ("misread", 0), ("right", 0), ("thrice", 0), ("misread", 0), ("right", 0))
        self.assertEqual(found, [[0, 1, 2], [0, 1, 2], [1], [0, 1, 2], [0, 1, 2]])

    def test_two_children_just_as_good(self):
        leaves = [("leaf", 1, 20), ("leaf", 1, 20), ("leaf", 0, 80)]
        for name in ("all_of", "some_of"):
            for row in ([0, 1, 2], [2, 0, 1], [1, 2, 0], [2, 1]):
                self.assertEqual(behind(leaves, (name, row), ("ends", 3)), [[3], [row[0]]])

    def test_two_children_just_as_good_behind_a_worse_one(self):
        leaves = [("leaf", 1, 10), ("leaf", 1, 30), ("leaf", 0, 70), ("leaf", 0, 5)]
        self.assertEqual(behind(leaves, ("all_of", [0, 2, 1]), ("ends", 4)), [[4], [2]])
        self.assertEqual(behind(leaves, ("some_of", [3, 2, 1]), ("ends", 4)), [[4], [2]])

    def test_just_as_good_though_read_otherwise(self):
        # Misread 1 half, thrice or once, is just as good.
        setting = [("leaf", 1, 50), ("leaf", 0, 50), ("thrice", 1), ("all_of", [1, 0])]
        self.assertEqual(behind(setting, ("ends", 2), ("right", 2)), [[1], [0, 1, 2]])

    def test_a_true_claim_held_less_than_half_the_time(self):
        setting = [("leaf", 1, 5), ("leaf", 1, 70), ("all_of", [0, 1])]
        self.assertEqual(behind(setting, ("is_true", 2), ("right", 2), ("ends", 2)), [[1], [0, 3, 10], [1]])

    def test_a_node_that_is_another_ones_child(self):
        setting = [("leaf", 1, 10), ("leaf", 1, 20), ("all_of", [0, 1]), ("leaf", 1, 1), ("some_of", [2, 3])]
        found = behind(setting, ("right", 2), ("ends", 2), ("right", 4), ("ends", 4), ("is_true", 2), ("nodeis", 2))
        self.assertEqual(found, [[0, 4, 5], [1], [0, 99, 100], [3], [1], [1, 0, 1]])

    def test_twenty_nodes_one_above_the_other(self):
        chain = [("leaf", 0, 30)] + [(("all_of", "some_of")[i % 2], [i]) for i in range(19)]
        found = behind(chain, ("nodeis", 19), ("ends", 19), ("right", 19), ("is_true", 19),
                       ("thrice", 0), ("right", 19), ("flip", 0), ("is_true", 19), ("right", 19), ("all_of", [19]))
        self.assertEqual(found, [[1, 18], [0], [0, 7, 10], [0], [1], [0, 98, 125], [1], [1], [0, 98, 125], [-28]])

    def test_twenty_nodes_as_a_wide_tree(self):
        wide = [("leaf", 1, 10 + i) for i in range(15)]
        wide += [("all_of", [0, 1, 2, 3]), ("all_of", [4, 5, 6, 7]), ("all_of", [8, 9, 10, 11])]
        wide += [("some_of", [15, 16, 17]), ("all_of", [12, 18, 13, 14])]
        found = behind(wide, ("ends", 15), ("ends", 18), ("right", 18), ("ends", 19), ("right", 19), ("is_true", 19))
        self.assertEqual(found, [[3], [3], [0, 87, 100], [14], [0, 19, 25], [1]])

    def test_a_child_popped_is_no_child_any_more(self):
        setting = [("leaf", 1, 10), ("leaf", 1, 20), ("all_of", [0, 1])]
        found = behind(setting, ("some_of", [1]), ("pop",), ("some_of", [1]), ("nodeis", 2), ("all_of", [0, 2]))
        self.assertEqual(found, [[-22], [2], [2], [2, 1], [3]])
        found = behind(setting, ("pop",), ("pop",), ("leaf", 0, 5), ("all_of", [1, 0]), ("nodeis", 2))
        self.assertEqual(found, [[2], [1], [1], [2], [1, 1, 0]])

    def test_a_leaf_read_thrice_then_popped(self):
        setting = [("leaf", 1, 10), ("leaf", 1, 20), ("thrice", 0), ("price", 1, 30)]
        found = behind(setting, ("thrice", 1), ("pop",), ("once", 1), ("leaf", 1, 20), ("misread", 1), ("once", 1),
                       ("price", 1, 2), ("once", 0), ("thrice", 1))
        self.assertEqual(found, [[31], [1], [-2], [1], [0, 1, 5], [-6], [1], [0], [2]])

    def test_what_a_popped_leaf_cost_is_paid_no_more(self):
        setting = [("leaf", 1, 10), ("leaf", 1, 20), ("price", 1, 30), ("thrice", 1), ("pop",)]
        self.assertEqual(behind(setting, ("thrice", 0), ("once", 0)), [[1], [0]])

    def test_a_leaf_flipped_that_is_read_thrice(self):
        setting = [("leaf", 1, 10), ("price", 0, 4), ("thrice", 0)]
        found = behind(setting, ("flip", 0), ("misread", 0), ("right", 0), ("thrice", 0), ("nodeis", 0), ("once", 0))
        self.assertEqual(found, [[0], [0, 7, 250], [0, 243, 250], [-17], [0, 0, 10], [0]])

    def test_leaves_read_otherwise_so_that_a_hearing_ends_elsewhere(self):
        setting = [("leaf", 1, 30), ("leaf", 1, 25), ("all_of", [0, 1]), ("some_of", [2])]
        found = behind(setting, ("ends", 3), ("thrice", 0), ("ends", 3), ("ends", 2), ("once", 0), ("ends", 3))
        self.assertEqual(found, [[0], [1], [1], [1], [0], [0]])
        setting = [("leaf", 1, 30), ("leaf", 1, 25), ("some_of", [0, 1])]
        self.assertEqual(behind(setting, ("ends", 2), ("thrice", 0), ("ends", 2)), [[1], [1], [0]])

    def test_a_leaf_flipped_so_that_a_hearing_ends_elsewhere(self):
        setting = [("leaf", 1, 10), ("leaf", 1, 20), ("all_of", [0, 1])]
        self.assertEqual(behind(setting, ("ends", 2), ("flip", 0), ("ends", 2), ("right", 2)),
                         [[1], [0], [0], [0, 9, 10]])

    def test_a_true_claim_that_ends_at_a_leaf_that_is_not_so(self):
        setting = [("leaf", 1, 90), ("leaf", 0, 60), ("some_of", [0, 1])]
        found = behind(setting, ("is_true", 2), ("ends", 2), ("right", 2), ("right", 1))
        self.assertEqual(found, [[1], [1], [0, 3, 5], [0, 2, 5]])


if __name__ == "__main__":
    unittest.main()
