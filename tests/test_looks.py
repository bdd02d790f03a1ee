"""Looks bought (cheapest, buy) and stakes: ordinary inputs, refusals and their order, edges, corners."""

import unittest

from telling import BIG, ask, behind

# Three leaves that are so, misread 30, 20 and 10 hundredths of the time, and 3 that is all of them.
ALL_THREE = [("leaf", 1, 30), ("leaf", 1, 20), ("leaf", 1, 10), ("all_of", [0, 1, 2])]
TEN = [("leaf", 1, 30)] * 10
TEN_BELOW_ONE = TEN + [("all_of", [0, 1, 2, 3]), ("all_of", [4, 5, 6, 7]), ("all_of", [8, 9, 10, 11])]
ELEVEN_BELOW_ONE = [("leaf", 1, 30)] + TEN + [("all_of", [0, 1, 2, 3]), ("all_of", [4, 5, 6, 7]),
                                             ("all_of", [8, 9, 10]), ("all_of", [11, 12, 13])]


class RowOfClaims(unittest.TestCase):
    """What cheapest and buy have in common: which rows are refused, and how."""

    def both(self, setting, t, row):
        found = [behind(setting, (name, t, row))[0] for name in ("cheapest", "buy")]
        self.assertEqual(found[0][0], found[1][0])
        return found[0][0]

    def test_rows_of_one_to_four(self):
        for row in ([0], [3, 0], [2, 1, 0], [3, 1, 2, 0]):
            self.assertEqual(self.both(ALL_THREE, 0, row), 0)

    def test_refuse_rows_of_other_lengths(self):
        six = [("leaf", 1, 10)] * 6
        for row in ([], [0, 1, 2, 3, 4], [0, 1, 2, 3, 4, 5], [0] * 6, [BIG] * 5):
            self.assertEqual(self.both(six, 0, row), -22)

    def test_refuse_a_number_twice(self):
        for row in ([0, 0], [1, 0, 1], [0, 1, 2, 0], [2, 2, 2, 2]):
            self.assertEqual(self.both(ALL_THREE, 0, row), -22)

    def test_refuse_nodes_that_are_not_there(self):
        for row in ([4], [0, 4], [BIG], [0, 1, 2, BIG]):
            self.assertEqual(self.both(ALL_THREE, 0, row), -22)
        self.assertEqual(self.both([], 0, [0]), -22)
        self.assertEqual(behind(ALL_THREE, ("pop",), ("cheapest", 0, [3]), ("buy", 0, [3])), [[3], [-22], [-22]])

    def test_refuse_more_than_a_hundred_hundredths(self):
        for t in (101, BIG):
            self.assertEqual(self.both(ALL_THREE, t, [0]), -22)

    def test_another_ones_child_may_be_a_claim(self):
        self.assertEqual(self.both(ALL_THREE, 70, [0, 1]), 0)

    def test_ten_leaves_and_eleven(self):
        self.assertEqual(self.both(TEN_BELOW_ONE, 70, [12]), 0)
        self.assertEqual(self.both(ELEVEN_BELOW_ONE, 70, [14]), -28)
        self.assertEqual(self.both(ELEVEN_BELOW_ONE, 0, [14]), -28)

    def test_eleven_leaves_of_several_claims_together(self):
        self.assertEqual(self.both(ELEVEN_BELOW_ONE, 0, [11, 12]), 0)
        self.assertEqual(self.both(ELEVEN_BELOW_ONE, 0, [11, 12, 8, 9]), 0)
        self.assertEqual(self.both(ELEVEN_BELOW_ONE, 0, [11, 12, 13]), -28)

    def test_a_claim_and_its_child_have_each_leaf_once(self):
        self.assertEqual(self.both(TEN_BELOW_ONE, 70, [12, 10, 11, 0]), 0)
        self.assertEqual(self.both(ELEVEN_BELOW_ONE, 70, [14, 11]), -28)

    def test_not_as_told_comes_ahead_of_too_many_leaves(self):
        self.assertEqual(self.both(ELEVEN_BELOW_ONE, 101, [14]), -22)
        self.assertEqual(self.both(ELEVEN_BELOW_ONE, 100, [14, 14]), -22)
        self.assertEqual(self.both(ELEVEN_BELOW_ONE, 100, [14, 15]), -22)

    def test_too_many_leaves_come_ahead_of_none_that_does(self):
        self.assertEqual(self.both(TEN_BELOW_ONE, 100, [12]), -33)
        self.assertEqual(self.both(ELEVEN_BELOW_ONE, 100, [14]), -28)

    def test_not_as_told_comes_ahead_of_none_that_does(self):
        self.assertEqual(self.both(ALL_THREE, 100, [0]), -33)
        self.assertEqual(self.both(ALL_THREE, 101, [0]), -22)


class Cheapest(unittest.TestCase):
    def test_just_brought_and_just_not(self):
        # Leaf 0 read thrice is misread 216 thousandths; leaf 1 stays misread 200.
        found = behind(ALL_THREE, *[("cheapest", t, [3]) for t in (0, 70, 71, 78, 79)])
        self.assertEqual(found, [[0, 0], [0, 0], [1, 1], [1, 1], [-33]])

    def test_changes_nothing(self):
        found = behind(ALL_THREE, ("cheapest", 78, [3]), ("misread", 0), ("thrice", 0), ("cheapest", 70, [3]),
                       ("misread", 0))
        self.assertEqual(found, [[1, 1], [0, 3, 10], [1], [0, 0], [0, 27, 125]])

    def test_several_claims_are_all_brought(self):
        found = behind(ALL_THREE, ("cheapest", 78, [0, 2]), ("cheapest", 85, [1, 2]), ("cheapest", 95, [2, 0]),
                       ("cheapest", 89, [1]), ("cheapest", 90, [1]), ("cheapest", 89, [2, 1]))
        self.assertEqual(found, [[1, 1], [1, 2], [-33], [1, 2], [-33], [1, 2]])

    def test_leaves_of_no_claim_are_read_once(self):
        # Only by leaf 0 would 3 be brought to 78, and it is read thrice now.
        setting = ALL_THREE + [("thrice", 0), ("thrice", 2)]
        self.assertEqual(behind(setting, ("cheapest", 78, [3]), ("cheapest", 91, [2]), ("cheapest", 70, [0])),
                         [[1, 1], [1, 4], [0, 0]])

    def test_goes_by_prices(self):
        some = [("leaf", 1, 30), ("leaf", 1, 30), ("some_of", [0, 1])]
        found = behind(some, ("price", 0, 5), ("price", 1, 3), ("cheapest", 75, [2]), ("price", 0, 2),
                       ("cheapest", 75, [2]), ("price", 2, 100), ("cheapest", 75, [2]), ("cheapest", 75, [0, 1]))
        self.assertEqual(found, [[1], [1], [3, 2], [5], [2, 1], [1], [2, 1], [5, 3]])

    def test_two_sets_as_cheap_the_one_of_fewer_leaves(self):
        setting = [("leaf", 1, 30), ("leaf", 1, 30), ("leaf", 1, 30), ("all_of", [0, 1]), ("some_of", [3, 2])]
        found = behind(setting, ("price", 2, 2), ("cheapest", 75, [4]), ("price", 2, 3), ("cheapest", 75, [4]))
        self.assertEqual(found, [[1], [2, 4], [2], [2, 3]])

    def test_two_sets_as_cheap_and_as_small_the_lesser_number(self):
        setting = [("leaf", 1, 30), ("leaf", 1, 30), ("leaf", 1, 30), ("some_of", [2, 1, 0]), ("some_of", [3])]
        self.assertEqual(behind(setting, ("cheapest", 75, [4]), ("price", 0, 2), ("cheapest", 75, [4])),
                         [[1, 1], [1], [1, 2]])

    def test_sets_of_great_numbers(self):
        twenty = [("leaf", 0, 30)] * 20
        found = behind(twenty, ("cheapest", 75, [19]), ("price", 19, 100), ("price", 0, 100),
                       ("cheapest", 78, [19, 0, 18, 10]))
        self.assertEqual(found, [[1, 524288], [1], [1], [202, 524288 + 262144 + 1024 + 1]])

    def test_t_of_0_and_of_100(self):
        setting = [("leaf", 1, 0), ("leaf", 1, 1), ("leaf", 0, 100), ("some_of", [1, 0])]
        found = behind(setting, *[("cheapest", t, [i]) for i in range(4) for t in (0, 100)])
        self.assertEqual(found, [[0, 0], [0, 0], [0, 0], [-33], [0, 0], [-33], [0, 0], [0, 0]])

    def test_a_leaf_misread_half_the_time(self):
        found = behind([("leaf", 1, 50)], ("cheapest", 50, [0]), ("cheapest", 51, [0]))
        self.assertEqual(found, [[0, 0], [-33]])

    def test_a_leaf_always_misread(self):
        setting = [("leaf", 1, 100), ("leaf", 0, 100), ("all_of", [0, 1])]
        found = behind(setting, ("cheapest", 1, [0]), ("cheapest", 1, [1]), ("cheapest", 0, [0, 1]),
                       ("cheapest", 100, [2]))
        self.assertEqual(found, [[-33], [-33], [0, 0], [0, 0]])

    def test_a_leaf_misread_more_than_half_the_time_may_help_as_well(self):
        # The claim is true by leaf 0; leaf 1 isn't so, and is misread more often if it's read thrice.
        setting = [("leaf", 1, 90), ("leaf", 0, 80), ("some_of", [0, 1])]
        found = behind(setting, ("cheapest", 80, [2]), ("cheapest", 89, [2]), ("cheapest", 90, [2]),
                       ("cheapest", 10, [0, 2]), ("cheapest", 20, [1, 2]), ("cheapest", 11, [0]))
        self.assertEqual(found, [[0, 0], [1, 2], [-33], [0, 0], [0, 0], [-33]])

    def test_a_claim_that_is_not_true(self):
        setting = [("leaf", 0, 30), ("leaf", 1, 5), ("all_of", [1, 0])]
        self.assertEqual(behind(setting, ("cheapest", 70, [2]), ("cheapest", 78, [2]), ("cheapest", 79, [2])),
                         [[0, 0], [1, 1], [-33]])

    def test_a_claim_and_its_child(self):
        setting = [("leaf", 1, 30), ("leaf", 1, 20), ("some_of", [0, 1])]
        found = behind(setting, ("cheapest", 75, [2]), ("cheapest", 75, [2, 0]), ("cheapest", 85, [2]),
                       ("cheapest", 75, [0, 1, 2]), ("cheapest", 85, [2, 0]))
        self.assertEqual(found, [[0, 0], [1, 1], [1, 2], [1, 1], [-33]])


class Buy(unittest.TestCase):
    def test_reads_the_cheapest_set_thrice(self):
        found = behind(ALL_THREE, ("price", 0, 7), ("buy", 78, [3]), ("misread", 0), ("misread", 1), ("right", 3),
                       ("thrice", 0), ("thrice", 1), ("once", 0))
        self.assertEqual(found[1:], [[7], [0, 27, 125], [0, 1, 5], [0, 98, 125], [-17], [8], [1]])

    def test_reads_all_others_once(self):
        setting = ALL_THREE + [("leaf", 0, 40), ("thrice", 1), ("thrice", 2), ("thrice", 4)]
        found = behind(setting, ("buy", 78, [0]), ("misread", 0), ("misread", 1), ("misread", 2), ("misread", 4),
                       ("once", 1), ("once", 2), ("once", 4), ("once", 0))
        self.assertEqual(found, [[1], [0, 27, 125], [0, 1, 5], [0, 1, 10], [0, 2, 5], [-6], [-6], [-6], [0]])

    def test_of_0_reads_all_once(self):
        found = behind(ALL_THREE + [("thrice", 0), ("thrice", 1)], ("buy", 0, [2]), ("once", 0), ("once", 1))
        self.assertEqual(found, [[0], [-6], [-6]])

    def test_anew_it_is_as_if_for_the_first_time(self):
        found = behind(ALL_THREE, ("buy", 78, [3]), ("buy", 78, [3]), ("once", 0), ("buy", 85, [1]), ("once", 0),
                       ("once", 1))
        self.assertEqual(found, [[1], [1], [0], [1], [-6], [0]])

    def test_of_several_leaves(self):
        found = behind(ALL_THREE, ("price", 1, 40), ("buy", 78, [2, 0, 1]), ("buy", 85, [1, 2]), ("once", 0))
        self.assertEqual(found, [[1], [1], [40], [-6]])
        pair = [("leaf", 1, 30), ("leaf", 0, 30), ("price", 0, 4), ("price", 1, 9)]
        self.assertEqual(behind(pair, ("buy", 75, [1, 0]), ("once", 0), ("once", 1)), [[13], [9], [0]])

    def test_is_not_paid_from_the_purse(self):
        self.assertEqual(ask(("begin", 3), *ALL_THREE, ("price", 0, 50), ("buy", 78, [3]), ("tally",))[-2:],
                         [[50], [0, 0, 3, 0]])

    def test_refused_it_reads_nothing_otherwise(self):
        setting = ALL_THREE + [("thrice", 1)]
        for t, row, refusal in ((101, [0], -22), (50, [], -22), (50, [7], -22), (79, [0], -33), (100, [3], -33)):
            found = behind(setting, ("buy", t, row), ("misread", 0), ("misread", 1), ("once", 1))
            self.assertEqual(found, [[refusal], [0, 3, 10], [0, 13, 125], [0]])

    def test_a_leaf_read_thrice_then_popped_counts_no_more(self):
        found = behind(ALL_THREE[:3], ("buy", 95, [2]), ("pop",), ("thrice", 0), ("leaf", 1, 10), ("misread", 2))
        self.assertEqual(found, [[1], [2], [1], [2], [0, 1, 10]])


class Stakes(unittest.TestCase):
    def of(self, w, g):
        return behind([("leaf", 1, w)], ("stakes", 0, g))[0]

    def test_the_least(self):
        # a lie: 1 less r times g below r times a; doubting the truth: 1 less r times a below r times b
        self.assertEqual(self.of(10, 10), [2, 1])
        self.assertEqual(self.of(10, 80), [9, 2])
        self.assertEqual(self.of(1, 1000), [11, 1])
        self.assertEqual(self.of(40, 100), [67, 45])
        self.assertEqual(self.of(49, 1), [1, 1])

    def test_nothing_to_be_had_is_not_fair(self):
        self.assertEqual(self.of(10, 8), [1, 1])
        self.assertEqual(self.of(10, 9), [2, 1])
        self.assertEqual(self.of(10, 81), [10, 2])
        self.assertEqual(self.of(10, 72), [9, 2])

    def test_up_to_a_hundred(self):
        self.assertEqual(self.of(10, 899), [100, 12])
        self.assertEqual(self.of(10, 900), [-33])
        self.assertEqual(self.of(10, 1000), [-33])
        self.assertEqual(self.of(49, 104), [100, 97])
        self.assertEqual(self.of(49, 105), [-33])

    def test_where_who_is_right_always_wins(self):
        for g in (1, 2, 1000):
            self.assertEqual(self.of(0, g), [1, 1])

    def test_nothing_to_gain(self):
        for w in (0, 10, 50, 100):
            self.assertEqual(self.of(w, 0), [-33])

    def test_where_who_is_right_wins_no_more_than_half_the_time(self):
        for w in (50, 51, 99, 100):
            for g in (0, 1, 10, 1000):
                self.assertEqual(self.of(w, g), [-33])

    def test_stakes_of_0_are_never_fair(self):
        for w in range(0, 50, 7):
            for g in (1, 3):
                self.assertGreaterEqual(min(self.of(w, g)), 1)

    def test_goes_by_how_leaves_are_read_now(self):
        found = behind(ALL_THREE, ("stakes", 3, 20), ("thrice", 0), ("stakes", 3, 20), ("once", 0), ("stakes", 3, 20))
        self.assertEqual(found, [[9, 4], [1], [6, 2], [0], [9, 4]])

    def test_of_a_claim_that_is_not_true(self):
        self.assertEqual(behind([("leaf", 0, 10), ("all_of", [0])], ("stakes", 0, 10), ("stakes", 1, 10)),
                         [[2, 1], [2, 1]])

    def test_refuses_to_gain_too_much(self):
        self.assertEqual(behind(ALL_THREE, ("stakes", 2, 1001), ("stakes", 2, BIG)), [[-22], [-22]])
        self.assertEqual(self.of(0, 1000), [1, 1])

    def test_no_such_node_comes_ahead_of_too_much(self):
        self.assertEqual(behind(ALL_THREE, ("stakes", 4, 1001), ("stakes", BIG, 1), ("stakes", 4, 0)), [[-2]] * 3)

    def test_too_much_comes_ahead_of_none_that_are_fair(self):
        self.assertEqual(self.of(50, 1001), [-22])

    def test_changes_nothing(self):
        found = ask(("begin", 9), *ALL_THREE, ("stakes", 3, 20), ("tally",), ("right", 3), ("stakes", 3, 20))
        self.assertEqual(found[-4:], [[9, 4], [0, 0, 9, 0], [0, 7, 10], [9, 4]])


if __name__ == "__main__":
    unittest.main()
