"""The calls index and thing: where things are, between which media, and which way light goes there."""

import math
import unittest

from helper import drop, index, printed, put, read, reverse, scale, set_to, thing, told

GLASSES = "glass air:1,1,1;glass bk:1.5,3/2,1.6;glass fl:2,1.75,7/3;"
AIR = [1, 1, 1, 1, 1, 1]
BK = [3, 2, 3, 2, 8, 5]
FL = [2, 1, 7, 4, 7, 3]


def back(indices):
    """A medium's indices where light goes back."""
    return [number if at % 2 else -number for at, number in enumerate(indices)]


class Index(unittest.TestCase):
    def test_each_glass(self):
        self.assertEqual(told(read(GLASSES + "start fl;"), index(0), index(1), index(2))[1:],
                         [[0] + AIR, [0] + BK, [0] + FL])

    def test_least_terms_and_long_numbers(self):
        text = f"glass a:6/4,{'9' * 18},{'9' * 18}/{'9' * 17}8;start a;"
        self.assertEqual(told(read(text), index(0))[1],
                         [0, 3, 2, 10 ** 18 - 1, 1, 10 ** 18 - 1, 10 ** 18 - 2])

    def test_sixteen_glasses(self):
        text = "".join(f"glass g{g}:{g + 1},1,1;" for g in range(16)) + "start g0;"
        self.assertEqual(told(read(text), *[index(g) for g in range(18)])[1:],
                         [[0, g + 1, 1, 1, 1, 1, 1] for g in range(16)] + [[-1], [-1]])

    def test_no_such_glass(self):
        text = GLASSES + "start air;stop a after 1;stop b after 1;stop c after 1;stop d after 1;"
        self.assertEqual(told(read(text), index(3), index(4294967295), index(2))[1:], [[-1], [-1], [0] + FL])

    def test_edits_leave_indices(self):
        text = GLASSES + "start air;surface s after 2 into bk curve 1;mirror m after 1 flat;"
        for edit in (scale(3, 2), reverse(), drop(0), set_to(0, 1, 5, 7), put(1, "surface t after 1 into fl flat;")):
            self.assertEqual(told(read(text), edit, index(0), index(1), index(2))[1:],
                             [[0], [0] + AIR, [0] + BK, [0] + FL])


class Things(unittest.TestCase):
    def check(self, text, *seen):
        many = len(seen)
        rows = told(read(GLASSES + text), *[thing(i) for i in range(many + 1)])
        self.assertEqual(rows, [[0, many]] + [[0] + list(kind) + before + behind for kind, before, behind in seen] + [[-1]])

    def test_no_mirror(self):
        self.check("start air;surface a after 10 into bk curve 1/2 clear 3;stop p after 2.5;"
                   "surface b after 1/3 into fl flat;stop q after 0;surface c after 1 into air curve -1;",
                   ((0, 10, 1), AIR, BK), ((2, 25, 2), BK, BK), ((0, 77, 6), BK, FL), ((2, 77, 6), FL, FL),
                   ((0, 83, 6), FL, AIR))

    def test_one_mirror(self):
        self.check("start air;surface a after 1 into bk flat;stop p after 2;mirror m after 3 curve -1/10;"
                   "stop q after 1/2;surface b after 1/2 into fl flat;stop r after 10;",
                   ((0, 1, 1), AIR, BK), ((2, 3, 1), BK, BK), ((1, 6, 1), BK, back(BK)),
                   ((2, 11, 2), back(BK), back(BK)), ((0, 5, 1), back(BK), back(FL)), ((2, -5, 1), back(FL), back(FL)))

    def test_two_mirrors(self):
        self.check("start fl;mirror m after 7 flat;surface a after 3 into air flat;mirror n after 10 flat;"
                   "surface b after 2 into bk flat;stop p after 20/3;",
                   ((1, 7, 1), FL, back(FL)), ((0, 4, 1), back(FL), back(AIR)), ((1, -6, 1), back(AIR), AIR),
                   ((0, -4, 1), AIR, BK), ((2, 8, 3), BK, BK))

    def test_three_mirrors(self):
        self.check("start bk;stop p after 1;mirror m after 1 flat;stop q after 1;mirror n after 5 flat;"
                   "surface s after 1 into air flat;mirror o after 9 flat;surface t after 8 into fl flat;stop r after 1;",
                   ((2, 1, 1), BK, BK), ((1, 2, 1), BK, back(BK)), ((2, 1, 1), back(BK), back(BK)),
                   ((1, -4, 1), back(BK), BK), ((0, -3, 1), BK, AIR), ((1, 6, 1), AIR, back(AIR)),
                   ((0, -2, 1), back(AIR), back(FL)), ((2, -3, 1), back(FL), back(FL)))

    def test_mirrors_one_behind_another_with_gaps_of_0(self):
        self.check("start bk;mirror a after 0 flat;mirror b after 0 flat;mirror c after 0 flat;",
                   ((1, 0, 1), BK, back(BK)), ((1, 0, 1), back(BK), BK), ((1, 0, 1), BK, back(BK)))

    def test_light_that_comes_back_to_0(self):
        self.check("start air;mirror m after 1/3 flat;stop s after 2/6;stop t after 1/7;",
                   ((1, 1, 3), AIR, back(AIR)), ((2, 0, 1), back(AIR), back(AIR)), ((2, -1, 7), back(AIR), back(AIR)))

    def test_a_surface_into_the_same_glass(self):
        self.check("start bk;surface s after 1 into bk flat;", ((0, 1, 1), BK, BK))

    def test_no_element(self):
        self.check("start bk;")

    def test_no_such_element(self):
        text = GLASSES + "start air;stop s after 1;"
        self.assertEqual(told(read(text), thing(1), thing(2), thing(4294967295), thing(0))[1:],
                         [[-1], [-1], [-1], [0, 2, 1, 1] + AIR + AIR])

    def test_a_place_may_be_a_longer_number_than_texts_have(self):
        long = "9" * 18
        self.assertEqual(told(read(f"{GLASSES}start air;stop s after {long};stop t after {long};"), thing(1))[1],
                         [0, 2, 2 * (10 ** 18 - 1), 1] + AIR + AIR)
        text = f"{GLASSES}start air;mirror s after 1/{long} flat;stop t after 1/{long[:-1]}8;"
        lower = (10 ** 18 - 1) * (10 ** 18 - 2)
        self.assertEqual(told(read(text), thing(1))[1], [0, 2, -1, lower] + back(AIR) + back(AIR))

    def test_a_place_of_sixteen_gaps_without_a_common_divisor(self):
        lowers = [999999999999999989 - 2 * at for at in range(16)]
        text = GLASSES + "start air;" + "".join(f"stop s{at} after 1/{lower};" for at, lower in enumerate(lowers))
        upper, lower = 0, 1
        for one in lowers:
            upper, lower = upper * one + lower, lower * one
        row = told(read(text), thing(15))[1]
        self.assertEqual(row[2] * lower, row[3] * upper)
        self.assertGreater(row[3], 10 ** 200)
        self.assertEqual(math.gcd(row[2], row[3]), 1)


class BehindEdits(unittest.TestCase):
    TEXT = GLASSES + "start air;surface a after 2 into bk flat;mirror m after 3 flat;stop p after 1;"

    def check(self, edit, *seen):
        rows = told(read(self.TEXT), edit, *[thing(i) for i in range(len(seen) + 1)])[1:]
        self.assertEqual(rows, [[0]] + [[0] + list(kind) + before + behind for kind, before, behind in seen] + [[-1]])

    def test_put(self):
        self.check(put(1, "surface b after 1 into fl flat;"), ((0, 2, 1), AIR, BK), ((0, 3, 1), BK, FL),
                   ((1, 6, 1), FL, back(FL)), ((2, 5, 1), back(FL), back(FL)))
        self.check(put(0, "mirror n after 10 flat;"), ((1, 10, 1), AIR, back(AIR)), ((0, 8, 1), back(AIR), back(BK)),
                   ((1, 5, 1), back(BK), BK), ((2, 6, 1), BK, BK))

    def test_drop(self):
        self.check(drop(0), ((1, 5, 1), AIR, back(AIR)), ((2, 4, 1), back(AIR), back(AIR)))
        self.check(drop(1), ((0, 2, 1), AIR, BK), ((2, 6, 1), BK, BK))
        self.check(drop(2), ((0, 2, 1), AIR, BK), ((1, 5, 1), BK, back(BK)))

    def test_set(self):
        self.check(set_to(1, 0, 1, 2), ((0, 2, 1), AIR, BK), ((1, 5, 2), BK, back(BK)), ((2, 3, 2), back(BK), back(BK)))
        self.check(set_to(1, 1, 7, 2), ((0, 2, 1), AIR, BK), ((1, 5, 1), BK, back(BK)), ((2, 4, 1), back(BK), back(BK)))

    def test_scale(self):
        self.check(scale(3, 2), ((0, 3, 1), AIR, BK), ((1, 15, 2), BK, back(BK)), ((2, 6, 1), back(BK), back(BK)))

    def test_reverse(self):
        self.check(reverse(), ((2, 0, 1), BK, BK), ((1, 1, 1), BK, back(BK)), ((0, -2, 1), back(BK), back(AIR)))

    def test_asking_changes_nothing(self):
        first = told(read(self.TEXT), printed())[1]
        self.assertEqual(told(read(self.TEXT), thing(0), thing(1), thing(2), thing(3), index(0), index(9), printed())[-1],
                         first)


if __name__ == "__main__":
    unittest.main()
