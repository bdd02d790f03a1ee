"""Each call: ordinary inputs, each refusal, and which refusal is answered where several are due."""

import unittest

from telling import BIG, ask, behind

# Nodes 0 to 2 are leaves, 3 is all of 0 and 1, 4 is some of 3 and 2.
SETTING = [("leaf", 1, 10), ("leaf", 0, 20), ("leaf", 1, 30), ("all_of", [0, 1]), ("some_of", [3, 2])]
TWENTY = [("leaf", 1, 10)] * 20


class Begin(unittest.TestCase):
    def test_is_answered(self):
        self.assertEqual(ask(("begin", 0)), [[0]])
        self.assertEqual(ask(("begin", 10000)), [[0]])

    def test_refuses_too_much(self):
        self.assertEqual(ask(("begin", 10001)), [[-22]])
        self.assertEqual(ask(("begin", BIG)), [[-22]])

    def test_refused_it_begins_nothing(self):
        self.assertEqual(ask(("begin", 10001), ("pop",), ("leaf", 1, 1)), [[-22], [-11], [-11]])

    def test_refused_it_leaves_what_there_is(self):
        found = behind(SETTING, ("begin", 10001), ("nodeis", 4), ("leaf", 0, 0))
        self.assertEqual(found, [[-22], [2, 3, 2], [5]])

    def test_again_it_begins_anew(self):
        found = behind(SETTING + [("thrice", 0), ("price", 0, 9)], ("begin", 3), ("nodeis", 0), ("pop",),
                       ("leaf", 0, 10), ("leaf", 0, 10), ("misread", 0), ("all_of", [0]), ("price", 0, 5),
                       ("thrice", 1))
        self.assertEqual(found, [[0], [-2], [-6], [0], [1], [0, 1, 10], [2], [1], [1]])

    def test_puts_so_much_into_the_purse(self):
        found = ask(("begin", 77), ("tally",), ("begin", 10001), ("tally",), ("begin", 10000), ("tally",), ("begin", 0),
                    ("tally",))
        self.assertEqual([answer[2] for answer in found[1::2]], [77, 77, 10000, 0])


class Leaf(unittest.TestCase):
    def test_is_numbered_behind_those_there_are(self):
        self.assertEqual(behind([], ("leaf", 1, 0), ("leaf", 0, 100), ("leaf", 0, 0)), [[0], [1], [2]])
        self.assertEqual(behind(SETTING, ("leaf", 1, 7)), [[5]])

    def test_refuses_what_is_not_as_told(self):
        for so, w in ((2, 0), (BIG, 0), (0, 101), (1, BIG), (2, 101)):
            self.assertEqual(behind([], ("leaf", so, w), ("nodeis", 0)), [[-22], [-2]])

    def test_refuses_the_twenty_first(self):
        found = behind(TWENTY, ("leaf", 1, 0), ("nodeis", 19), ("nodeis", 20), ("pop",), ("leaf", 0, 5))
        self.assertEqual(found, [[-28], [0, 1, 10], [-2], [19], [19]])

    def test_not_as_told_comes_ahead_of_no_room(self):
        self.assertEqual(behind(TWENTY, ("leaf", 2, 0), ("leaf", 0, 101)), [[-22], [-22]])


class Branches(unittest.TestCase):
    def both(self, setting, row, *more):
        found = [behind(setting, (name, row), *more) for name in ("all_of", "some_of")]
        self.assertEqual(found[0][0], found[1][0])
        return found[0][0]

    def test_are_numbered_behind_those_there_are(self):
        four = [("leaf", 1, 10)] * 4
        for row in ([0], [3, 0], [2, 1, 0], [3, 1, 2, 0]):
            self.assertEqual(self.both(four, row), [4])

    def test_children_are_kept_in_the_order_told(self):
        five = [("leaf", 1, 10)] * 5
        self.assertEqual(behind(five, ("all_of", [3, 1, 2, 0]), ("nodeis", 5)), [[5], [1, 3, 1, 2, 0]])
        self.assertEqual(behind(five, ("some_of", [4, 0]), ("nodeis", 5)), [[5], [2, 4, 0]])

    def test_refuse_rows_of_other_lengths(self):
        six = [("leaf", 1, 10)] * 6
        for row in ([], [0, 1, 2, 3, 4], [0, 1, 2, 3, 4, 5], [0] * 6):
            self.assertEqual(self.both(six, row), [-22])

    def test_refuse_a_number_twice(self):
        for row in ([0, 0], [1, 0, 1], [0, 1, 2, 0], [2, 2, 2, 2]):
            self.assertEqual(self.both(SETTING[:3], row), [-22])

    def test_refuse_nodes_that_are_not_there(self):
        for row in ([3], [0, 3], [BIG], [0, 1, 2, BIG]):
            self.assertEqual(self.both(SETTING[:3], row), [-22])
        self.assertEqual(self.both([], [0]), [-22])

    def test_refuse_another_ones_child(self):
        for row in ([0], [1], [2], [3], [4, 0], [4, 3]):
            self.assertEqual(self.both(SETTING, row), [-22])
        self.assertEqual(self.both(SETTING, [4]), [5])

    def test_refuse_the_twenty_first(self):
        self.assertEqual(self.both(TWENTY, [0]), [-28])
        self.assertEqual(self.both(TWENTY, [4, 3, 2, 19]), [-28])

    def test_not_as_told_comes_ahead_of_no_room(self):
        for row in ([], [20], [1, 1], [0, 1, 2, 3, 4]):
            self.assertEqual(self.both(TWENTY, row), [-22])
        self.assertEqual(self.both(TWENTY[:19] + [("all_of", [0])], [0]), [-22])

    def test_refused_they_take_no_child(self):
        found = behind(SETTING[:3], ("all_of", [0, 1, 7]), ("some_of", [2, 2]), ("some_of", [0, 1, 2]))
        self.assertEqual(found, [[-22], [-22], [3]])


class Pop(unittest.TestCase):
    def test_takes_the_last(self):
        found = behind(SETTING, ("pop",), ("nodeis", 4), ("nodeis", 3), ("pop",), ("pop",), ("nodeis", 1))
        self.assertEqual(found, [[4], [-2], [1, 0, 1], [3], [2], [0, 0, 20]])

    def test_refuses_where_there_is_none(self):
        found = behind([], ("pop",), ("leaf", 1, 1), ("pop",), ("pop",), ("leaf", 0, 2))
        self.assertEqual(found, [[-6], [0], [0], [-6], [0]])


class Nodeis(unittest.TestCase):
    def test_tells_leaves_and_branches(self):
        found = behind(SETTING, *[("nodeis", i) for i in range(5)])
        self.assertEqual(found, [[0, 1, 10], [0, 0, 20], [0, 1, 30], [1, 0, 1], [2, 3, 2]])

    def test_tells_how_often_a_leaf_is_misread_once(self):
        self.assertEqual(behind(SETTING, ("thrice", 1), ("nodeis", 1)), [[1], [0, 0, 20]])


class Flip(unittest.TestCase):
    def test_turns_a_leaf(self):
        found = behind(SETTING, ("flip", 1), ("nodeis", 1), ("is_true", 3), ("flip", 1), ("nodeis", 1), ("flip", 0))
        self.assertEqual(found, [[1], [0, 1, 20], [1], [0], [0, 0, 20], [0]])

    def test_refuses_what_is_no_leaf(self):
        self.assertEqual(behind(SETTING, ("flip", 3), ("flip", 4), ("is_true", 3)), [[-33], [-33], [0]])


class Price(unittest.TestCase):
    def test_is_one_at_first_and_then_as_set(self):
        found = behind(SETTING, ("price", 0, 100), ("price", 0, 1), ("price", 0, 50), ("price", 0, 7))
        self.assertEqual(found, [[1], [100], [1], [50]])

    def test_every_node_has_one(self):
        found = behind(SETTING, ("price", 3, 5), ("price", 4, 6), ("price", 3, 7), ("price", 4, 8))
        self.assertEqual(found, [[1], [1], [5], [6]])

    def test_refuses_what_is_not_1_to_100(self):
        for p in (0, 101, BIG):
            found = behind(SETTING, ("price", 2, 9), ("price", 2, p), ("price", 3, p), ("price", 2, 1))
            self.assertEqual(found, [[1], [-22], [-22], [9]])

    def test_no_such_node_comes_ahead_of_not_as_told(self):
        self.assertEqual(behind(SETTING, ("price", 5, 0), ("price", BIG, 101)), [[-2], [-2]])


class ThriceAndOnce(unittest.TestCase):
    def test_tell_what_all_cost(self):
        found = behind(SETTING, ("price", 0, 10), ("price", 2, 100), ("thrice", 0), ("thrice", 1), ("thrice", 2),
                       ("once", 0), ("thrice", 0), ("once", 2), ("once", 1), ("once", 0))
        self.assertEqual(found[2:], [[10], [11], [111], [101], [111], [11], [10], [0]])

    def test_cost_goes_by_the_prices_of_that_moment(self):
        found = behind(SETTING, ("thrice", 0), ("price", 0, 40), ("thrice", 1), ("price", 0, 2), ("price", 3, 90),
                       ("once", 1))
        self.assertEqual(found, [[1], [1], [41], [40], [1], [2]])

    def test_thrice_refuses_what_is_no_leaf(self):
        self.assertEqual(behind(SETTING, ("thrice", 3), ("thrice", 4), ("once", 3)), [[-33], [-33], [-6]])

    def test_thrice_refuses_a_leaf_read_thrice(self):
        found = behind(SETTING, ("thrice", 0), ("thrice", 0), ("misread", 0), ("once", 0), ("thrice", 0))
        self.assertEqual(found, [[1], [-17], [0, 7, 250], [0], [1]])

    def test_once_refuses_what_is_not_read_thrice(self):
        found = behind(SETTING, ("once", 0), ("once", 4), ("thrice", 0), ("once", 0), ("once", 0), ("misread", 0))
        self.assertEqual(found, [[-6], [-6], [1], [0], [-6], [0, 1, 10]])


class Misread(unittest.TestCase):
    def test_once_it_is_as_told(self):
        for w, told in ((0, [0, 0, 1]), (1, [0, 1, 100]), (25, [0, 1, 4]), (50, [0, 1, 2]),
                        (64, [0, 16, 25]), (99, [0, 99, 100]), (100, [0, 1, 1])):
            for so in (0, 1):
                self.assertEqual(behind([("leaf", so, w)], ("misread", 0)), [told])

    def test_thrice_it_is_by_what_comes_more_often(self):
        for w, told in ((0, [0, 0, 1]), (1, [0, 149, 500000]), (10, [0, 7, 250]), (25, [0, 5, 32]),
                        (30, [0, 27, 125]), (50, [0, 1, 2]), (80, [0, 112, 125]), (99, [0, 499851, 500000]),
                        (100, [0, 1, 1])):
            for so in (0, 1):
                self.assertEqual(behind([("leaf", so, w), ("thrice", 0)], ("misread", 0)), [told])

    def test_refuses_what_is_no_leaf(self):
        self.assertEqual(behind(SETTING, ("misread", 3), ("misread", 4)), [[-33], [-33]])


class IsTrue(unittest.TestCase):
    def test_of_leaves_and_branches(self):
        self.assertEqual(behind(SETTING, *[("is_true", i) for i in range(5)]), [[1], [0], [1], [0], [1]])

    def test_all_of_needs_all_and_some_of_one(self):
        for first in (0, 1):
            for second in (0, 1):
                leaves = [("leaf", first, 5), ("leaf", second, 5)]
                self.assertEqual(behind(leaves, ("all_of", [0, 1]), ("is_true", 2))[1], [min(first, second)])
                self.assertEqual(behind(leaves, ("some_of", [0, 1]), ("is_true", 2))[1], [max(first, second)])


class Right(unittest.TestCase):
    def test_of_leaves_and_branches(self):
        # Held: 0.9, 0.2, 0.7, the least 0.2, the greatest 0.7; nodes 1 and 3 aren't true.
        found = behind(SETTING, *[("right", i) for i in range(5)])
        self.assertEqual(found, [[0, 9, 10], [0, 4, 5], [0, 7, 10], [0, 4, 5], [0, 7, 10]])

    def test_goes_by_how_leaves_are_read_now(self):
        found = behind(SETTING, ("thrice", 2), ("right", 4), ("right", 3), ("once", 2), ("right", 4))
        self.assertEqual(found, [[1], [0, 98, 125], [0, 4, 5], [0], [0, 7, 10]])

    def test_always_and_never(self):
        leaves = [("leaf", 1, 0), ("leaf", 0, 0), ("leaf", 1, 100), ("leaf", 0, 100)]
        found = behind(leaves, *[("right", i) for i in range(4)])
        self.assertEqual(found, [[0, 1, 1], [0, 1, 1], [0, 0, 1], [0, 0, 1]])


class Ends(unittest.TestCase):
    def test_of_leaves_and_branches(self):
        self.assertEqual(behind(SETTING, *[("ends", i) for i in range(5)]), [[0], [1], [2], [1], [2]])

    def test_at_all_of_who_is_against_it_picks(self):
        leaves = [("leaf", 1, 5), ("leaf", 1, 40), ("leaf", 1, 20)]
        self.assertEqual(behind(leaves, ("all_of", [0, 1, 2]), ("ends", 3)), [[3], [1]])

    def test_at_some_of_who_is_for_it_picks(self):
        leaves = [("leaf", 0, 5), ("leaf", 0, 40), ("leaf", 0, 20)]
        self.assertEqual(behind(leaves, ("some_of", [0, 1, 2]), ("ends", 3)), [[3], [1]])


class NoSuchNode(unittest.TestCase):
    NAMES = ("nodeis", "flip", "thrice", "once", "misread", "is_true", "right", "ends", "tightest")

    def test_is_refused_by_each_call_about_a_node(self):
        for name in self.NAMES:
            self.assertEqual(behind([], (name, 0), (name, BIG)), [[-2], [-2]])
            self.assertEqual(behind(SETTING, (name, 5), (name, BIG), ("pop",), (name, 4)), [[-2], [-2], [4], [-2]])
        for name, *more in (("price", 1), ("promise", 0), ("hear", 0, 1), ("ifhear", 0, 1), ("stakes", 1)):
            self.assertEqual(behind([], (name, 0, *more)), [[-2]])
            self.assertEqual(behind(SETTING, (name, 5, *more), (name, BIG, *more), (name, 5, *[BIG] * len(more))),
                             [[-2]] * 3)


class Refused(unittest.TestCase):
    """Whatever is refused, all that comes behind it is answered as if it hadn't been called."""

    # Leaf 6 is misread more than half the time: read thrice it would break the last promise.
    HISTORY = SETTING + [("leaf", 0, 45), ("leaf", 1, 60), ("thrice", 0), ("thrice", 5), ("price", 0, 6),
                         ("price", 5, 30), ("hear", 4, 1, 2), ("hear", 0, 0, 1), ("promise", 0, 97),
                         ("promise", 1, 80), ("promise", 6, 40)]
    REFUSED = [
        ("begin", 10001), ("leaf", 2, 5), ("leaf", 0, 101), ("all_of", []), ("all_of", [4, 4]), ("all_of", [0, 5]),
        ("some_of", [7]), ("some_of", [4, 5, 3]), ("pop",), ("nodeis", 7), ("flip", 7), ("flip", 4), ("price", 7, 5),
        ("price", 5, 0), ("price", 0, 101), ("thrice", 7), ("thrice", 3), ("thrice", 0), ("thrice", 6), ("once", 7),
        ("once", 1), ("once", 3), ("once", 0), ("misread", 7), ("misread", 3), ("is_true", 7), ("right", 7),
        ("ends", 7), ("cheapest", 101, [0]), ("cheapest", 0, []), ("cheapest", 0, [7]), ("cheapest", 99, [0]),
        ("buy", 101, [0]), ("buy", 0, [1, 1]), ("buy", 99, [0]), ("buy", 0, [1]), ("buy", 60, [5]), ("promise", 7, 0),
        ("promise", 0, 101), ("promise", 0, 97), ("promise", 0, 98), ("unpromise", 3), ("promiseis", 3),
        ("tightest", 7), ("hear", 7, 0, 1), ("hear", 0, 1, 1), ("hear", 0, 0, 1001), ("hear", 5, 1, 2),
        ("ifhear", 7, 0, 1), ("ifhear", 0, 1, 1), ("entry", 2), ("pay", 10001), ("stakes", 7, 1), ("stakes", 0, 1001),
        ("stakes", 6, 1),
    ]
    LOOKS = [
        [(name, i) for i in range(7) for name in ("nodeis", "misread", "is_true", "right", "ends")],
        [("tally",), ("owed",)] + [("entry", k) for k in range(3)] + [("promiseis", k) for k in range(4)],
        [("price", i, 1) for i in range(7)] + [("unpromise", 0)] * 4 + [("once", i) for i in range(7)],
        [("unpromise", 0)] * 3 + [("all_of", [i]) for i in range(7)] + [("pop",)] * 10,
    ]

    def test_changes_nothing(self):
        for look in self.LOOKS:
            plain = ask(("begin", 25), *self.HISTORY, *look)[1 + len(self.HISTORY):]
            for call in self.REFUSED:
                found = ask(("begin", 25), *self.HISTORY, call, *look)[1 + len(self.HISTORY):]
                self.assertLess(found[0][0], 0, call)
                self.assertEqual(len(found[0]), 1, call)
                self.assertEqual(found[1:], plain, call)

    def test_for_no_room_changes_nothing(self):
        full = self.HISTORY[:6] + [("leaf", 1, 3)] * 14
        look = [("nodeis", 19), ("nodeis", 20), ("all_of", [5]), ("pop",), ("all_of", [4, 5]), ("pop",), ("pop",)]
        plain = behind(full, *look)
        for call in (("leaf", 1, 1), ("all_of", [4, 5]), ("some_of", [5])):
            self.assertEqual(behind(full, call, *look), [[-28]] + plain, call)


if __name__ == "__main__":
    unittest.main()
