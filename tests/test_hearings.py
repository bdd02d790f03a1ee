"""Hearings and the purse: hear, ifhear, entry, tally, owed, pay."""

import unittest
from fractions import Fraction

from telling import BIG, ask, behind

# Nodes 0 to 2 are leaves, 3 is all of 0 and 1, 4 is some of 3 and 2; 4 is true and ends at leaf 2, 3 isn't.
SETTING = [("leaf", 1, 10), ("leaf", 0, 20), ("leaf", 1, 30), ("all_of", [0, 1]), ("some_of", [3, 2])]
THRICE = [("leaf", 1, 10), ("price", 0, 7), ("thrice", 0)]


def with_purse(m, setting, *calls):
    """The answers to these calls alone, m being in the purse at first."""
    return ask(("begin", m), *setting, *calls)[1 + len(setting):]


class Hear(unittest.TestCase):
    def both(self, setting, *told):
        """What hear answers, and ifhear, which is the same where there's room and enough."""
        found = [with_purse(10000, setting, (name, *told))[0] for name in ("hear", "ifhear")]
        self.assertEqual(found[0], found[1])
        return found[0]

    def test_luck_just_as_great_as_how_often_it_is_misread(self):
        for so in (0, 1):
            setting = [("leaf", so, 20)]
            for a, b in ((0, 1), (1, 6), (19, 100), (199, 1000)):
                self.assertEqual(self.both(setting, 0, a, b), [1 - so, 0, 0])
            for a, b in ((1, 5), (20, 100), (200, 1000), (201, 1000), (1, 4), (999, 1000)):
                self.assertEqual(self.both(setting, 0, a, b), [so, 0, 0])

    def test_read_thrice(self):
        # misread 28 thousandths of the time
        for so in (0, 1):
            setting = [("leaf", so, 10), ("thrice", 0)]
            self.assertEqual(self.both(setting, 0, 27, 1000), [1 - so, 0, 1])
            self.assertEqual(self.both(setting, 0, 28, 1000), [so, 0, 1])
            self.assertEqual(self.both(setting, 0, 7, 250), [so, 0, 1])

    def test_never_and_always_misread(self):
        for so in (0, 1):
            for reads in ([], [("thrice", 0)]):
                for a, b in ((0, 1), (0, 1000), (1, 2), (999, 1000)):
                    self.assertEqual(self.both([("leaf", so, 0)] + reads, 0, a, b), [so, 0, len(reads)])
                    self.assertEqual(self.both([("leaf", so, 100)] + reads, 0, a, b), [1 - so, 0, len(reads)])

    def test_ends_where_a_dispute_ends(self):
        self.assertEqual(self.both(SETTING, 4, 29, 100), [0, 2, 0])
        self.assertEqual(self.both(SETTING, 4, 30, 100), [1, 2, 0])
        self.assertEqual(self.both(SETTING, 3, 19, 100), [1, 1, 0])
        self.assertEqual(self.both(SETTING, 3, 20, 100), [0, 1, 0])

    def test_a_true_claim_that_ends_at_a_leaf_that_is_not_so(self):
        setting = [("leaf", 1, 90), ("leaf", 0, 60), ("some_of", [0, 1])]
        self.assertEqual(self.both(setting, 2, 59, 100), [1, 1, 0])
        self.assertEqual(self.both(setting, 2, 60, 100), [0, 1, 0])
        found = with_purse(0, setting, ("hear", 2, 59, 100), ("hear", 2, 60, 100), ("entry", 0), ("entry", 1),
                           ("tally",), ("owed",))
        self.assertEqual(found[2:], [[2, 1, 1, 0, 2, 5], [2, 1, 0, 0, 2, 5], [2, 1, 0, 0], [2, 4, 5]])

    def test_two_children_just_as_good(self):
        leaves = [("leaf", 1, 20), ("leaf", 0, 80), ("leaf", 1, 20)]
        for name in ("all_of", "some_of"):
            for row in ([0, 1, 2], [1, 2, 0], [2, 0]):
                found = self.both(leaves + [(name, row)], 3, 1, 2)
                # taken for what it is where it's misread 20, for otherwise where it's misread 80
                self.assertEqual(found, [1, row[0], 0])

    def test_costs_the_leafs_price_if_it_is_read_thrice(self):
        self.assertEqual(self.both(THRICE, 0, 0, 1), [0, 0, 7])
        self.assertEqual(self.both(THRICE[:2], 0, 0, 1), [0, 0, 0])
        self.assertEqual(self.both(THRICE + [("price", 0, 100)], 0, 1, 2), [1, 0, 100])
        # neither another leaf's price nor the node's own
        setting = SETTING + [("price", 2, 9), ("price", 4, 50), ("price", 0, 60), ("thrice", 0), ("thrice", 2)]
        self.assertEqual(self.both(setting, 4, 1, 2), [1, 2, 9])
        self.assertEqual(self.both(setting, 3, 1, 2), [0, 1, 0])

    def test_leaves_bought_anew_so_that_it_ends_elsewhere(self):
        setting = [("leaf", 1, 30), ("leaf", 1, 25), ("all_of", [0, 1]), ("price", 0, 4), ("price", 1, 6)]
        found = with_purse(100, setting, ("hear", 2, 29, 100), ("buy", 75, [2]), ("ends", 2), ("hear", 2, 24, 100),
                           ("buy", 80, [1]), ("hear", 2, 1, 2), ("buy", 78, [2]), ("buy", 78, [2, 1]), ("tally",))
        self.assertEqual(found, [[0, 0, 0], [4], [1], [0, 1, 0], [6], [1, 0, 0], [10], [10], [3, 1, 100, 0]])
        found = with_purse(100, setting, ("buy", 78, [2]), ("hear", 2, 1, 2), ("ends", 2), ("tally",))
        self.assertEqual(found, [[10], [1, 0, 4], [0], [1, 1, 96, 4]])

    def test_is_paid_from_the_purse(self):
        found = with_purse(20, THRICE, ("hear", 0, 1, 2), ("tally",), ("hear", 0, 0, 1), ("tally",))
        self.assertEqual(found, [[1, 0, 7], [1, 1, 13, 7], [0, 0, 7], [2, 1, 6, 14]])

    def test_a_purse_that_is_just_enough(self):
        found = with_purse(7, THRICE, ("hear", 0, 1, 2), ("tally",), ("hear", 0, 1, 2), ("pay", 6), ("hear", 0, 1, 2),
                           ("pay", 1), ("hear", 0, 1, 2), ("tally",))
        self.assertEqual(found, [[1, 0, 7], [1, 1, 0, 7], [-19], [6], [-19], [7], [1, 0, 7], [2, 2, 0, 14]])
        self.assertEqual(with_purse(6, THRICE, ("hear", 0, 1, 2), ("tally",), ("entry", 0), ("owed",)),
                         [[-19], [0, 0, 6, 0], [-2], [0, 0, 1]])

    def test_costs_nothing_with_nothing_in_the_purse(self):
        self.assertEqual(with_purse(0, [("leaf", 0, 3)], ("hear", 0, 1, 2), ("tally",)), [[0, 0, 0], [1, 1, 0, 0]])

    def test_refuses_what_is_no_luck(self):
        for a, b in ((0, 0), (1, 1), (2, 1), (1000, 1000), (1001, 1000), (0, 1001), (5, 1001), (0, BIG), (BIG, 1000),
                     (BIG, BIG), (BIG, 0), (1, 0)):
            self.assertEqual(self.both(SETTING, 4, a, b), [-22])
        for a, b in ((0, 1), (0, 1000), (999, 1000), (1, 2)):
            self.assertEqual(len(self.both(SETTING, 4, a, b)), 3)

    def test_refuses_no_such_node(self):
        for i in (5, BIG):
            self.assertEqual(self.both(SETTING, i, 0, 1), [-2])
        self.assertEqual(self.both([], 0, 0, 1), [-2])

    def test_the_twenty_first(self):
        found = behind([("leaf", 1, 5)], *[("hear", 0, 1, 2)] * 20, ("hear", 0, 1, 2), ("tally",), ("entry", 19),
                       ("entry", 20), ("owed",))
        self.assertEqual(found, [[1, 0, 0]] * 20 + [[-28], [20, 20, 0, 0], [0, 0, 1, 0, 1, 20], [-2], [20, 1, 1]])

    def test_order_of_refusals(self):
        # no such node, then no luck, then no room, then too little in the purse
        full = [("leaf", 1, 5)] + [("hear", 0, 1, 2)] * 20 + [("thrice", 0)]
        found = behind(full, ("hear", 1, 1, 1), ("hear", 1, 0, 1), ("hear", 0, 1, 1), ("hear", 0, 0, 1001),
                       ("hear", 0, 0, 1), ("tally",))
        self.assertEqual(found, [[-2], [-2], [-22], [-22], [-28], [20, 20, 0, 0]])
        found = behind([("leaf", 1, 5), ("thrice", 0)], ("hear", 1, 0, 1), ("hear", 0, 1, 1), ("hear", 0, 0, 1))
        self.assertEqual(found, [[-2], [-22], [-19]])

    def test_refused_it_is_not_put_down(self):
        look = [("tally",), ("owed",), ("entry", 0), ("entry", 1), ("right", 0), ("ends", 0)]
        ahead = THRICE + [("hear", 0, 1, 2)]
        plain = with_purse(9, ahead, *look)
        for told, refusal in (((1, 0, 1), -2), ((0, 1, 1), -22), ((0, 1, 2), -19)):
            self.assertEqual(with_purse(9, ahead, ("hear", *told), *look), [[refusal]] + plain)

    def test_of_all_lucks_it_goes_wrong_no_more_than_told_and_one(self):
        for so in (0, 1):
            for w in (0, 7, 33, 50, 85, 100):
                setting = [("leaf", so, w), ("leaf", 1 - so, 40), ("some_of", [0, 1])]
                true, right = behind(setting, ("is_true", 2), ("right", 2))
                for b in (1, 7, 30):
                    held = behind(setting, *[("ifhear", 2, a, b) for a in range(b)])
                    wrong = len([answer for answer in held if answer[0] != true[0]])
                    self.assertLessEqual(wrong, (1 - Fraction(right[1], right[2])) * b + 1)


class Ifhear(unittest.TestCase):
    def test_holds_nothing(self):
        found = with_purse(20, THRICE, ("ifhear", 0, 1, 2), ("ifhear", 0, 0, 1), ("tally",), ("entry", 0), ("owed",))
        self.assertEqual(found, [[1, 0, 7], [0, 0, 7], [0, 0, 20, 0], [-2], [0, 0, 1]])

    def test_tells_on_where_the_purse_has_too_little(self):
        self.assertEqual(with_purse(6, THRICE, ("ifhear", 0, 1, 2), ("hear", 0, 1, 2)), [[1, 0, 7], [-19]])

    def test_tells_on_where_there_is_no_room(self):
        full = [("leaf", 1, 5)] + [("hear", 0, 1, 2)] * 20
        self.assertEqual(behind(full, ("ifhear", 0, 1, 2), ("hear", 0, 1, 2), ("ifhear", 0, 1, 1), ("ifhear", 1, 1, 1)),
                         [[1, 0, 0], [-28], [-22], [-2]])

    def test_no_such_node_comes_ahead_of_no_luck(self):
        self.assertEqual(behind(SETTING, ("ifhear", 5, 1, 1), ("ifhear", BIG, BIG, BIG)), [[-2], [-2]])

    def test_what_is_told_ahead_comes(self):
        for a in range(10):
            found = with_purse(9, THRICE + SETTING[1:3], ("ifhear", 1, a, 10), ("hear", 1, a, 10), ("ifhear", 0, a, 10),
                               ("hear", 0, a, 10))
            self.assertEqual(found[0], found[1])
            self.assertEqual(found[2], found[3])


class Entry(unittest.TestCase):
    def test_tells_a_hearing(self):
        setting = SETTING + [("thrice", 2), ("price", 2, 9)]
        found = with_purse(50, setting, ("hear", 4, 1, 2), ("hear", 3, 0, 1), ("hear", 0, 1, 10), ("entry", 0),
                           ("entry", 1), ("entry", 2), ("entry", 3))
        self.assertEqual(found[3:], [[4, 2, 1, 9, 27, 125], [3, 1, 1, 0, 1, 5], [0, 0, 1, 0, 1, 10], [-2]])

    def test_never_and_always_wrong(self):
        setting = [("leaf", 1, 0), ("leaf", 0, 100)]
        found = behind(setting, ("hear", 0, 0, 1), ("hear", 1, 0, 1), ("entry", 0), ("entry", 1))
        self.assertEqual(found[2:], [[0, 0, 1, 0, 0, 1], [1, 1, 1, 0, 1, 1]])

    def test_is_as_things_stood_then(self):
        changes = [("flip", 2), ("price", 2, 100), ("once", 2), ("buy", 85, [1]), ("pop",), ("pop",), ("pop",),
                   ("leaf", 0, 100), ("pay", 5)]
        setting = SETTING + [("thrice", 2), ("price", 2, 9), ("hear", 4, 1, 2)]
        found = with_purse(50, setting, *[call for change in changes for call in (change, ("entry", 0))])
        self.assertEqual(found[1::2], [[4, 2, 1, 9, 27, 125]] * len(changes))
        self.assertGreaterEqual(min(answer[0] for answer in found), 0)

    def test_refuses_no_such_entry(self):
        self.assertEqual(behind(SETTING, ("entry", 0), ("entry", BIG)), [[-2], [-2]])
        self.assertEqual(behind(SETTING + [("hear", 0, 0, 1)], ("entry", 1), ("entry", BIG)), [[-2], [-2]])


class Tally(unittest.TestCase):
    def test_with_no_hearing(self):
        self.assertEqual(ask(("begin", 12), ("tally",)), [[0], [0, 0, 12, 0]])
        self.assertEqual(with_purse(12, SETTING, ("tally",)), [[0, 0, 12, 0]])

    def test_counts_those_held_for_what_they_are(self):
        # 3 isn't true: it's held for what it is, if it's not held for true
        found = behind(SETTING, ("hear", 4, 1, 2), ("tally",), ("hear", 4, 0, 1), ("tally",), ("hear", 3, 0, 1),
                       ("tally",), ("hear", 3, 1, 2), ("tally",))
        self.assertEqual(found[1::2], [[1, 1, 0, 0], [2, 1, 0, 0], [3, 1, 0, 0], [4, 2, 0, 0]])

    def test_a_claim_that_is_otherwise_by_now(self):
        found = behind([("leaf", 1, 10), ("all_of", [0])], ("hear", 1, 1, 2), ("hear", 1, 0, 1), ("hear", 0, 1, 2),
                       ("tally",), ("flip", 0), ("tally",), ("flip", 0), ("tally",))
        self.assertEqual(found[3:], [[3, 2, 0, 0], [0], [3, 1, 0, 0], [1], [3, 2, 0, 0]])

    def test_a_node_that_was_popped(self):
        found = behind([("leaf", 1, 10), ("leaf", 0, 10)], ("hear", 1, 1, 2), ("hear", 1, 0, 1), ("hear", 0, 1, 2),
                       ("tally",), ("pop",), ("tally",), ("pop",), ("tally",))
        self.assertEqual(found[3:], [[3, 2, 0, 0], [1], [3, 1, 0, 0], [0], [3, 0, 0, 0]])

    def test_a_node_that_is_another_one_by_now(self):
        setting = [("leaf", 1, 10), ("leaf", 0, 10), ("hear", 1, 1, 2), ("pop",)]
        found = behind(setting, ("tally",), ("leaf", 0, 50), ("tally",), ("pop",), ("leaf", 1, 50), ("tally",),
                       ("pop",), ("some_of", [0]), ("tally",), ("flip", 0), ("tally",))
        self.assertEqual([answer for answer in found if len(answer) == 4],
                         [[1, 0, 0, 0], [1, 1, 0, 0], [1, 0, 0, 0], [1, 0, 0, 0], [1, 1, 0, 0]])

    def test_what_all_cost_and_what_is_left(self):
        found = with_purse(30, THRICE, ("hear", 0, 1, 2), ("price", 0, 10), ("hear", 0, 1, 2), ("once", 0),
                           ("hear", 0, 1, 2), ("pay", 4), ("tally",))
        self.assertEqual(found[-1], [3, 3, 17, 17])


class Owed(unittest.TestCase):
    def test_with_no_hearing(self):
        self.assertEqual(behind([], ("owed",)), [[0, 0, 1]])

    def test_together(self):
        found = behind(SETTING, ("hear", 0, 0, 1), ("owed",), ("hear", 1, 0, 1), ("owed",), ("hear", 4, 1, 2),
                       ("owed",), ("hear", 3, 0, 1), ("owed",))
        self.assertEqual(found[1::2], [[1, 1, 10], [2, 3, 10], [3, 3, 5], [4, 4, 5]])

    def test_with_twenty_hearings(self):
        for w, told in ((0, [20, 0, 1]), (1, [20, 1, 5]), (5, [20, 1, 1]), (33, [20, 33, 5]), (100, [20, 20, 1])):
            found = behind([("leaf", 0, w)] + [("hear", 0, 1, 2)] * 20, ("owed",), ("hear", 0, 1, 2), ("owed",))
            self.assertEqual(found, [told, [-28], told])

    def test_as_things_stood_at_each(self):
        found = with_purse(9, [("leaf", 1, 10)], ("hear", 0, 1, 2), ("thrice", 0), ("owed",), ("hear", 0, 1, 2),
                           ("owed",), ("once", 0), ("owed",), ("pop",), ("owed",))
        self.assertEqual([answer for answer in found if len(answer) == 3],
                         [[1, 0, 0], [1, 1, 10], [1, 0, 1], [2, 16, 125], [2, 16, 125], [2, 16, 125]])

    def test_does_not_go_by_how_it_was_held(self):
        found = behind([("leaf", 1, 20)], ("hear", 0, 0, 1), ("owed",), ("hear", 0, 1, 2), ("owed",))
        self.assertEqual(found[1::2], [[1, 1, 5], [2, 2, 5]])


class Pay(unittest.TestCase):
    def test_is_put_into_the_purse(self):
        self.assertEqual(with_purse(5, [], ("pay", 0), ("pay", 1), ("pay", 10000), ("tally",)),
                         [[5], [6], [10006], [0, 0, 10006, 0]])

    def test_refuses_too_much_at_once(self):
        self.assertEqual(with_purse(5, [], ("pay", 10001), ("pay", BIG), ("tally",)), [[-22], [-22], [0, 0, 5, 0]])

    def test_up_to_a_hundred_thousand_just_so_and_one_more(self):
        found = with_purse(10000, [], *[("pay", 10000)] * 9, ("pay", 1), ("pay", 0), ("pay", 10000), ("tally",))
        self.assertEqual(found, [[m * 10000] for m in range(2, 11)] + [[-22], [100000], [-22], [0, 0, 100000, 0]])
        found = with_purse(9999, [], *[("pay", 10000)] * 9, ("pay", 2), ("pay", 1), ("pay", 1))
        self.assertEqual(found[-3:], [[-22], [100000], [-22]])

    def test_what_was_paid_out_makes_room(self):
        setting = THRICE + [("pay", 10000)] * 9
        found = with_purse(10000, setting, ("hear", 0, 1, 2), ("pay", 8), ("pay", 7), ("pay", 1))
        self.assertEqual(found, [[1, 0, 7], [-22], [100000], [-22]])


class BeginAgain(unittest.TestCase):
    AHEAD = THRICE + [("leaf", 0, 20), ("promise", 0, 90), ("hear", 0, 1, 2), ("hear", 1, 1, 2), ("pay", 30)]

    def test_there_are_no_nodes_no_promises_and_no_hearings(self):
        found = with_purse(50, self.AHEAD, ("tally",), ("begin", 3), ("tally",), ("owed",), ("entry", 0),
                           ("promiseis", 0), ("unpromise", 0), ("nodeis", 0), ("pop",), ("leaf", 0, 10), ("tally",),
                           ("price", 0, 1), ("thrice", 0), ("hear", 0, 1, 2), ("entry", 0), ("promise", 0, 90))
        self.assertEqual(found, [[2, 2, 73, 7], [0], [0, 0, 3, 0], [0, 0, 1], [-2], [-2], [-2], [-2], [-6], [0],
                                 [0, 0, 3, 0], [1], [1], [0, 0, 1], [0, 0, 0, 1, 7, 250], [0]])

    def test_refused_it_leaves_all(self):
        found = with_purse(50, self.AHEAD, ("begin", 10001), ("tally",), ("promiseis", 0), ("entry", 1), ("nodeis", 1),
                           ("once", 0))
        self.assertEqual(found, [[-22], [2, 2, 73, 7], [0, 90], [1, 1, 0, 0, 1, 5], [0, 0, 20], [0]])

    def test_puts_just_so_much_into_the_purse(self):
        for m in (0, 77, 10000):
            self.assertEqual(ask(("begin", m), ("tally",), ("begin", 5), ("tally",), ("begin", m), ("tally",)),
                             [[0], [0, 0, m, 0], [0], [0, 0, 5, 0], [0], [0, 0, m, 0]])

    def test_there_is_room_for_twenty_hearings_and_four_promises_again(self):
        ahead = [("leaf", 1, 5)] + [("hear", 0, 1, 2)] * 20 + [("promise", 0, t) for t in range(4)]
        found = behind(ahead, ("begin", 0), ("leaf", 1, 5), *[("hear", 0, 1, 2)] * 20, *[("promise", 0, 9)] * 2)
        self.assertEqual(found, [[0], [0]] + [[1, 0, 0]] * 20 + [[0], [-17]])


if __name__ == "__main__":
    unittest.main()
