"""The calls where they're answered, their refusals, and how they stand in lists."""

import builtins
import sys
import unittest
from unittest import mock

from helper import (Keeper, as_bytes, count, drop, find, forget, index, look, looks, name, printed, put, read, reverse,
                    scale, set_to, thing, told, told_bytes)
from lensrows.systems import answers

TEXT = """# a triplet of sorts
glass air: 1, 1, 1;
glass BK7: 1.5168, 3/2, 1.50;   glass _f2 : 162/100,1.6,2 ;
start air;
surface s1 after 10 into BK7 radius 20 conic -1/2 clear 5;
surface s2 after 2.50 into _f2 radius -40/3;
stop iris after 0 clear 4.25;
surface BK7 after 6 / 4 into air flat conic 3;
mirror m after 100 curve -0.01 conic - 1 clear 30 / 4;
mirror m2 after 000 curve 0;
stop open after 7;
"""

FORM = """glass air : 1 , 1 , 1 ;
glass BK7 : 948 / 625 , 3 / 2 , 3 / 2 ;
glass _f2 : 81 / 50 , 8 / 5 , 2 ;
start air ;
surface s1 after 10 into BK7 curve 1 / 20 conic - 1 / 2 clear 5 ;
surface s2 after 5 / 2 into _f2 curve - 3 / 40 ;
stop iris after 0 clear 17 / 4 ;
surface BK7 after 3 / 2 into air flat conic 3 ;
mirror m after 100 curve - 1 / 100 conic - 1 clear 15 / 2 ;
mirror m2 after 0 flat ;
stop open after 7 ;
"""

OTHER = "glass a:1,1,1;glass b:2,2,2;start b;stop s after 1;"

# Each of the fourteen calls, where it's answered and where it's refused.
ALL = (count() + read(TEXT) + printed() + read("glass x") + name(0, 1) + name(2, 0) + find(1, "m") + find(1, "x") + look(4)
       + look(7) + index(1) + index(3) + thing(5) + thing(7) + put(1, "mirror x after 1 flat;") + put(1, "stop x after 1;")
       + put(9, "") + drop(0) + drop(7) + set_to(0, 1, -6, 4) + set_to(0, 0, -1, 1) + set_to(0, 0, 10 ** 18, 1)
       + set_to(0, 4, 1, 1) + scale(2, 3) + scale(0, 1) + scale(10 ** 18, 1) + reverse() + printed() + thing(6) + forget()
       + reverse() + read(OTHER) + printed())


class Answered(unittest.TestCase):
    def test_read_tells_how_many_elements(self):
        self.assertEqual(told(read(TEXT)), [[0, 7]])
        self.assertEqual(told(read("glass a:1,1,1;start a;")), [[0, 0]])

    def test_read_takes_the_place_of_what_was_kept(self):
        self.assertEqual(told(read(TEXT), read(OTHER), count()), [[0, 7], [0, 1], [0, 2, 1, 1]])

    def test_print_is_the_one_form(self):
        self.assertEqual(told(read(TEXT), printed())[1], told_bytes(FORM))

    def test_print_of_a_system_without_elements(self):
        self.assertEqual(told(read("glass a:1,1.0,7/7;start a;"), printed())[1],
                         told_bytes("glass a : 1 , 1 , 1 ;\nstart a ;\n"))

    def test_count(self):
        self.assertEqual(told(read(TEXT), count())[1], [0, 3, 7, 0])
        self.assertEqual(told(read(OTHER), count())[1], [0, 2, 1, 1])

    def test_names(self):
        asked = [name(0, 0), name(0, 1), name(0, 2)] + [name(1, i) for i in range(7)]
        names = ["air", "BK7", "_f2", "s1", "s2", "iris", "BK7", "m", "m2", "open"]
        self.assertEqual(told(read(TEXT), *asked)[1:], [told_bytes(one) for one in names])

    def test_find(self):
        asked = [find(0, "air"), find(0, "_f2"), find(0, "BK7"), find(1, "BK7"), find(1, "s1"), find(1, "open")]
        self.assertEqual(told(read(TEXT), *asked)[1:], [[0, 0], [0, 2], [0, 1], [0, 3], [0, 0], [0, 6]])

    def test_look(self):
        self.assertEqual(told(read(TEXT), *[look(i) for i in range(7)])[1:], [
            [0, 0, 1, 10, 1, 1, 20, -1, 2, 5, 1],
            [0, 0, 2, 5, 2, -3, 40, 0, 1, 0, 1],
            [0, 2, 0, 0, 1, 0, 1, 0, 1, 17, 4],
            [0, 0, 0, 3, 2, 0, 1, 3, 1, 0, 1],
            [0, 1, 0, 100, 1, -1, 100, -1, 1, 15, 2],
            [0, 1, 0, 0, 1, 0, 1, 0, 1, 0, 1],
            [0, 2, 0, 7, 1, 0, 1, 0, 1, 0, 1]])

    def test_printed_and_read_it_is_the_same(self):
        self.assertEqual(looks(FORM), looks(TEXT))

    def test_forget(self):
        self.assertEqual(told(forget(), read(TEXT), forget(), forget(), count(), read(OTHER), count()),
                         [[0], [0, 7], [0], [0], [-2], [0, 1], [0, 2, 1, 1]])

    def test_numbers_as_long_as_texts_have_them(self):
        long = "999999999999999999"
        text = f"glass a:{long},{long}/999999999999999998,1.{'0' * 16}1;start a;" \
               f"mirror m after {long}/{long[:-1]}7 radius -{long}/10000 conic 0.{'0' * 16}1 clear 1/{long};"
        self.assertEqual(told(read(text), look(0))[1],
                         [0, 1, 0, 10 ** 18 - 1, 10 ** 18 - 3, -10000, 10 ** 18 - 1, 1, 10 ** 17, 1, 10 ** 18 - 1])
        self.assertEqual(told(read(text), printed())[1], told_bytes(
            f"glass a : {long} , {long} / 999999999999999998 , 1{'0' * 16}1 / 1{'0' * 17} ;\nstart a ;\n"
            f"mirror m after {long} / {long[:-1]}7 curve - 10000 / {long} conic 1 / 1{'0' * 17} clear 1 / {long} ;\n"))


class Numbers(unittest.TestCase):
    """How values of all forms are told and printed."""

    def shaped(self, shape):
        row = told(read(f"glass a:1,1,1;start a;mirror m after 0 {shape};"), look(0), printed())
        form = bytes(row[2][2:]).decode().splitlines()[2]
        self.assertTrue(form.startswith("mirror m after 0 ") and form.endswith(" ;"), form)
        return row[1][5:], form[17:-2]

    def test_shapes(self):
        for shape, seen, form in (
                ("flat", [0, 1, 0, 1, 0, 1], "flat"),
                ("curve 0", [0, 1, 0, 1, 0, 1], "flat"),
                ("curve -0", [0, 1, 0, 1, 0, 1], "flat"),
                ("curve -0/5 conic -0.0", [0, 1, 0, 1, 0, 1], "flat"),
                ("curve 0.000 conic 2", [0, 1, 2, 1, 0, 1], "flat conic 2"),
                ("curve 6/4", [3, 2, 0, 1, 0, 1], "curve 3 / 2"),
                ("curve -6/3", [-2, 1, 0, 1, 0, 1], "curve - 2"),
                ("radius 0.5", [2, 1, 0, 1, 0, 1], "curve 2"),
                ("radius -2", [-1, 2, 0, 1, 0, 1], "curve - 1 / 2"),
                ("radius -4/6", [-3, 2, 0, 1, 0, 1], "curve - 3 / 2"),
                ("radius -1.25 conic -1.25", [-4, 5, -5, 4, 0, 1], "curve - 4 / 5 conic - 5 / 4"),
                ("flat clear 0.10", [0, 1, 0, 1, 1, 10], "flat clear 1 / 10"),
                ("radius 1 conic 0/9 clear 8/4", [1, 1, 0, 1, 2, 1], "curve 1 clear 2"),
                ("curve 00012.500", [25, 2, 0, 1, 0, 1], "curve 25 / 2")):
            with self.subTest(shape):
                self.assertEqual(self.shaped(shape), (seen, form))

    def test_a_surface_has_its_parts_in_order(self):
        text = "glass a:1,1,1;start a;surface s after 1/2 into a radius 3 conic 4 clear 5;"
        self.assertEqual(told(read(text), printed())[1],
                         told_bytes("glass a : 1 , 1 , 1 ;\nstart a ;\n"
                                    "surface s after 1 / 2 into a curve 1 / 3 conic 4 clear 5 ;\n"))


class Refused(unittest.TestCase):
    # Each call's refusals where there is a system, but those of read.
    REFUSALS = (
        (name(0, 3), [-1]), (name(1, 7), [-1]), (name(2, 0), [-1]), (name(4294967295, 0), [-1]),
        (name(0, 4294967295), [-1]), (name(1, 4294967295), [-1]),
        (find(2, "air"), [-1]), (find(4294967295, "air"), [-1]), (find(2, ""), [-1]),
        (find(0, "s1"), [-4]), (find(1, "air"), [-4]), (find(0, ""), [-4]), (find(0, "ai"), [-4]),
        (find(0, "airs"), [-4]), (find(0, "AIR"), [-4]), (find(0, "glass"), [-4]), (find(1, [0, 255]), [-4]),
        (find(1, "x" * 15000), [-4]), (look(7), [-1]), (look(4294967295), [-1]))

    def test_refusals(self):
        for call, answer in self.REFUSALS:
            with self.subTest(call[:5]):
                self.assertEqual(told(read(TEXT), call, printed()), [[0, 7], answer, told_bytes(FORM)])

    def test_no_element_to_look_at(self):
        self.assertEqual(told(read("glass a:1,1,1;start a;"), look(0), name(1, 0), find(1, "a"))[1:],
                         [[-1], [-1], [-4]])

    def test_where_there_is_no_system(self):
        asked = (printed(), count(), name(0, 0), find(0, "air"), look(0), name(2, 0), find(2, "air"), look(9))
        for call in asked:
            with self.subTest(call):
                self.assertEqual(told(call), [[-2]])
                self.assertEqual(told(read(TEXT), forget(), call), [[0, 7], [0], [-2]])
                self.assertEqual(told(read("glass"), call), [[-7, 2, 5], [-2]])

    def test_what_stands_behind_a_refused_call_is_answered(self):
        self.assertEqual(told(find(0, "air"), name(0, 0), look(0), read(OTHER), find(0, "b")),
                         [[-2], [-2], [-2], [0, 1], [0, 1]])

    def test_a_refused_read_leaves_what_is_kept(self):
        for text, answer in (("", [-7, 2, 0]), (OTHER + "?", [-7, 1, len(OTHER)]),
                             (OTHER + OTHER, [-7, 2, len(OTHER)]), (" " * 16385, [-1])):
            with self.subTest(answer):
                self.assertEqual(told(read(TEXT), read(text), printed(), count()),
                                 [[0, 7], answer, told_bytes(FORM), [0, 3, 7, 0]])

    def test_too_many_bytes(self):
        self.assertEqual(told(read(OTHER + " " * (16384 - len(OTHER)))), [[0, 1]])
        self.assertEqual(told(read(OTHER + " " * (16385 - len(OTHER)))), [[-1]])
        self.assertEqual(told(read("?" * 16384)), [[-7, 1, 0]])
        self.assertEqual(told(read("?" * 16385)), [[-1]])


class OnlyRead(list):
    """A list that refuses to be changed."""

    def refuse(self, *_, **__):
        raise AssertionError("what is handed in was changed")

    __setitem__ = __delitem__ = __iadd__ = __imul__ = refuse
    append = extend = insert = pop = remove = clear = sort = reverse = refuse


class Interface(unittest.TestCase):
    def test_the_empty_list(self):
        self.assertEqual(answers([]), [])

    def test_how_answers_stand(self):
        calls = [3, 0, len(OTHER)] + as_bytes(OTHER) + [3, 1, 1, 2, 0, 0]
        self.assertEqual(answers(calls), [1, -2, 2, 0, 1, 4, 0, 2, 1, 1, 1, 0, 1, 0, 1, -2, 3, -7, 2, 0])
        calls = [0, len(OTHER)] + as_bytes(OTHER) + [4, 0, 1, 5, 1, 1, 115, 6, 0, 4, 9, 9]
        self.assertEqual(answers(calls), [2, 0, 1, 3, 0, 1, 98, 2, 0, 0, 11, 0, 2, 0, 1, 1, 0, 1, 0, 1, 0, 1, 1, -1])

    def test_bytes_are_told_as_how_many_and_then_they(self):
        text = "glass a : 1 , 1 , 1 ;\nstart a ;\n"
        row = as_bytes(text)
        self.assertEqual(answers([0, len(row)] + row + [2]), [2, 0, 0, len(row) + 2, 0, len(row)] + row)

    def test_all_calls_are_answered_and_refused(self):
        row = told(ALL)
        self.assertEqual([one[0] for one in row], [
            -2, 0, 0, -7, 0, -1, 0, -4, 0, -1, 0, -1, 0, -1, 0, -7, -1, 0, -1, 0, -5, -6, -1, 0, -1, -6, 0, 0, 0, 0, -2, 0, 0])
        # With how many numbers each is answered.
        self.assertEqual([len(one) for one in row if one[0] in (-1, -2, -4, -5, -6)], [1] * 14)
        self.assertEqual([len(one) for one in row if one[0] == -7], [3, 3])
        self.assertEqual([len(row[at]) for at in (1, 6, 8, 10, 12, 14, 17, 19, 23, 26, 28, 29)],
                         [2, 2, 11, 7, 16, 1, 1, 1, 1, 1, 16, 1])

    def test_what_is_handed_in_is_as_it_was_and_a_second_time_answers_the_same(self):
        calls = list(ALL)
        first = answers(calls)
        self.assertEqual(calls, ALL)
        self.assertEqual(answers(calls), first)
        self.assertEqual(calls, ALL)

    def test_what_is_handed_in_is_not_changed_for_a_while_either(self):
        self.assertEqual(answers(OnlyRead(ALL)), answers(list(ALL)))

    def test_it_prints_reads_and_imports_nothing(self):
        calls = list(ALL)
        expected = answers(calls)
        there = set(sys.modules)
        with mock.patch.multiple(builtins, print=None, open=None, input=None, __import__=None), \
                mock.patch.object(sys, "stdout", None), mock.patch.object(sys, "stdin", None):
            row = answers(calls)
        self.assertEqual(row, expected)
        self.assertEqual(set(sys.modules), there)

    def test_long_inputs_are_gone_through_by_loops(self):
        long = [read("#\n" * 7000 + OTHER), read("glass " + "a" * 15000), find(1, "a" * 15000), read("1" * 15000)]
        long += [read(OTHER) + put(0, "#\n" * 7000 + "stop t after 1;"), read(OTHER) + put(1, "stop " + "a" * 15000)]
        many = [read(OTHER) + (count() + look(0) + printed()) * 130, read(TEXT) + (thing(6) + reverse() + scale(3, 2)) * 130]
        depth = 0
        frame = sys._getframe()
        while frame is not None:
            depth, frame = depth + 1, frame.f_back
        limit = sys.getrecursionlimit()
        for calls in long + many:
            sys.setrecursionlimit(depth + 50)
            try:
                row = answers(calls)
            finally:
                sys.setrecursionlimit(limit)
            self.assertTrue(row)

    def test_what_is_given_back_belongs_to_the_caller(self):
        calls = read(TEXT) + name(0, 0)
        first = answers(calls)
        kept = list(first)
        first.clear()
        self.assertEqual(answers(calls), kept)

    def test_nothing_is_kept_from_one_time_to_the_next(self):
        answers(read(TEXT))
        self.assertEqual(answers(count()), [1, -2])
        answers(read(TEXT) + drop(0) + set_to(0, 0, 7, 1) + scale(2, 1) + reverse() + put(0, "stop x after 1;"))
        self.assertEqual(answers(reverse()), [1, -2])
        self.assertEqual(told(read(TEXT), printed())[1], told_bytes(FORM))

    def test_whole_numbers_and_lists_alone(self):
        row = answers(ALL + read(TEXT) + count() + name(1, 2))
        self.assertIs(type(row), list)
        self.assertEqual({type(number) for number in row}, {int})

    def test_four_hundred_calls(self):
        row = told(*([read(OTHER)] + [count(), look(0), forget(), read(OTHER)] * 99 + [count()]))
        self.assertEqual(row, [[0, 1]] + [[0, 2, 1, 1], [0, 2, 0, 1, 1, 0, 1, 0, 1, 0, 1], [0], [0, 1]] * 99
                         + [[0, 2, 1, 1]])

    def test_four_hundred_edits(self):
        keeper = Keeper(FORM)
        calls = []
        for turn in range(49):
            calls += [put(turn % 8, f"mirror t{turn} after {turn}/7 curve 1/{turn + 1};"), set_to(turn % 7, 0, turn, 3),
                      scale(turn % 5 + 1, turn % 3 + 1), reverse(), drop(turn % 9), thing(turn % 9), look(turn % 9), printed()]
        calls += [scale(3, 2), scale(2, 3)] * 3 + [printed()]
        self.assertEqual(len(calls), 399)
        expected = [keeper.answer(call) for call in calls]
        self.assertEqual(told(read(TEXT), *calls)[1:], expected)
        self.assertEqual({answer[0] for answer in expected}, {0, -1})

    def test_sixteen_thousand_numbers(self):
        """As many numbers and calls as there may be, with as long a text to put as there's room for."""
        calls = [read(TEXT)] + [thing(3), reverse()] * 199
        room = 16000 - sum(len(call) for call in calls) - 3
        element = "stop x after 1/2;"
        calls.insert(1, put(7, element + "#" * (room - len(element))))
        self.assertEqual((len(calls), sum(len(call) for call in calls)), (400, 16000))
        keeper = Keeper(FORM)
        self.assertEqual(told(*calls), [[0, 7]] + [keeper.answer(call) for call in calls[1:]])

    def test_as_long_a_fault_as_there_is_room_for(self):
        room = 16000 - len(read(OTHER)) - 3 - 1
        blank = " " * (room - 1)
        for text, answer in ((blank + "?", [-7, 1, room - 1]), (blank + "x", [-7, 2, room - 1]), (blank + " ", [-7, 2, room]),
                             ("x" * room, [-7, 1, 0]), ("stop " + "s;" * ((room - 5) // 2), [-7, 3, 5])):
            self.assertEqual(told(read(OTHER), put(1, text), count())[1:], [answer, [0, 2, 1, 1]])


if __name__ == "__main__":
    unittest.main()
