"""The calls where they're answered, their refusals, and how they stand in lists."""

import builtins
import sys
import unittest
from unittest import mock

from helper import as_bytes, count, find, forget, look, looks, name, printed, read, told, told_bytes
from lensrows.systems import answers

TEXT = """# a triplet of sorts
glass air: 1, 1, 1;
glass BK7: 1.5168, 3/2, 1.50;   glass _f2 : 162/100,1.6,2 ;
start air;
surface s1 after 10 into BK7 radius 20 conic -1/2 clear 5;
surface s2 after 2.50 into _f2 radius -40/3;
stop iris after 0 clear 4.25;
surface BK7 after 6 / 4 into air flat conic 3;
mirror m after 100 curve -0.01 conic - 1 clear 30 / 4;
mirror m2 after 000 curve 0;
stop open after 7;
"""

FORM = """glass air : 1 , 1 , 1 ;
glass BK7 : 948 / 625 , 3 / 2 , 3 / 2 ;
glass _f2 : 81 / 50 , 8 / 5 , 2 ;
start air ;
surface s1 after 10 into BK7 curve 1 / 20 conic - 1 / 2 clear 5 ;
surface s2 after 5 / 2 into _f2 curve - 3 / 40 ;
stop iris after 0 clear 17 / 4 ;
surface BK7 after 3 / 2 into air flat conic 3 ;
mirror m after 100 curve - 1 / 100 conic - 1 clear 15 / 2 ;
mirror m2 after 0 flat ;
stop open after 7 ;
"""

OTHER = "glass a:1,1,1;glass b:2,2,2;start b;stop s after 1;"


class Answered(unittest.TestCase):
    def test_read_tells_how_many_elements(self):
        self.assertEqual(told(read(TEXT)), [[0, 7]])
        self.assertEqual(told(read("glass a:1,1,1;start a;")), [[0, 0]])

    def test_read_takes_the_place_of_what_was_kept(self):
        self.assertEqual(told(read(TEXT), read(OTHER), count()), [[0, 7], [0, 1], [0, 2, 1, 1]])

    def test_print_is_the_one_form(self):
        self.assertEqual(told(read(TEXT), printed())[1], told_bytes(FORM))

    def test_print_of_a_system_without_elements(self):
        self.assertEqual(told(read("glass a:1,1.0,7/7;start a;"), printed())[1],
                         told_bytes("glass a : 1 , 1 , 1 ;\nstart a ;\n"))

    def test_count(self):
        self.assertEqual(told(read(TEXT), count())[1], [0, 3, 7, 0])
        self.assertEqual(told(read(OTHER), count())[1], [0, 2, 1, 1])

    def test_names(self):
        asked = [name(0, 0), name(0, 1), name(0, 2)] + [name(1, i) for i in range(7)]
        names = ["air", "BK7", "_f2", "s1", "s2", "iris", "BK7", "m", "m2", "open"]
        self.assertEqual(told(read(TEXT), *asked)[1:], [told_bytes(one) for one in names])

    def test_find(self):
        asked = [find(0, "air"), find(0, "_f2"), find(0, "BK7"), find(1, "BK7"), find(1, "s1"), find(1, "open")]
        self.assertEqual(told(read(TEXT), *asked)[1:], [[0, 0], [0, 2], [0, 1], [0, 3], [0, 0], [0, 6]])

    def test_look(self):
        self.assertEqual(told(read(TEXT), *[look(i) for i in range(7)])[1:], [
            [0, 0, 1, 10, 1, 1, 20, -1, 2, 5, 1],
            [0, 0, 2, 5, 2, -3, 40, 0, 1, 0, 1],
            [0, 2, 0, 0, 1, 0, 1, 0, 1, 17, 4],
            [0, 0, 0, 3, 2, 0, 1, 3, 1, 0, 1],
            [0, 1, 0, 100, 1, -1, 100, -1, 1, 15, 2],
            [0, 1, 0, 0, 1, 0, 1, 0, 1, 0, 1],
            [0, 2, 0, 7, 1, 0, 1, 0, 1, 0, 1]])

    def test_printed_and_read_it_is_the_same(self):
        self.assertEqual(looks(FORM), looks(TEXT))

    def test_forget(self):
        self.assertEqual(told(forget(), read(TEXT), forget(), forget(), count(), read(OTHER), count()),
                         [[0], [0, 7], [0], [0], [-2], [0, 1], [0, 2, 1, 1]])

    def test_numbers_as_long_as_texts_have_them(self):
        long = "999999999999999999"
        text = f"glass a:{long},{long}/999999999999999998,1.{'0' * 16}1;start a;" \
               f"mirror m after {long}/{long[:-1]}7 radius -{long}/10000 conic 0.{'0' * 16}1 clear 1/{long};"
        self.assertEqual(told(read(text), look(0))[1],
                         [0, 1, 0, 10 ** 18 - 1, 10 ** 18 - 3, -10000, 10 ** 18 - 1, 1, 10 ** 17, 1, 10 ** 18 - 1])
        self.assertEqual(told(read(text), printed())[1], told_bytes(
            f"glass a : {long} , {long} / 999999999999999998 , 1{'0' * 16}1 / 1{'0' * 17} ;\nstart a ;\n"
            f"mirror m after {long} / {long[:-1]}7 curve - 10000 / {long} conic 1 / 1{'0' * 17} clear 1 / {long} ;\n"))


class Numbers(unittest.TestCase):
    """How values of all forms are told and printed."""

    def shaped(self, shape):
        row = told(read(f"glass a:1,1,1;start a;mirror m after 0 {shape};"), look(0), printed())
        form = bytes(row[2][2:]).decode().splitlines()[2]
        self.assertTrue(form.startswith("mirror m after 0 ") and form.endswith(" ;"), form)
        return row[1][5:], form[17:-2]

    def test_shapes(self):
        for shape, seen, form in (
                ("flat", [0, 1, 0, 1, 0, 1], "flat"),
                ("curve 0", [0, 1, 0, 1, 0, 1], "flat"),
                ("curve -0", [0, 1, 0, 1, 0, 1], "flat"),
                ("curve -0/5 conic -0.0", [0, 1, 0, 1, 0, 1], "flat"),
                ("curve 0.000 conic 2", [0, 1, 2, 1, 0, 1], "flat conic 2"),
                ("curve 6/4", [3, 2, 0, 1, 0, 1], "curve 3 / 2"),
                ("curve -6/3", [-2, 1, 0, 1, 0, 1], "curve - 2"),
                ("radius 0.5", [2, 1, 0, 1, 0, 1], "curve 2"),
                ("radius -2", [-1, 2, 0, 1, 0, 1], "curve - 1 / 2"),
                ("radius -4/6", [-3, 2, 0, 1, 0, 1], "curve - 3 / 2"),
                ("radius -1.25 conic -1.25", [-4, 5, -5, 4, 0, 1], "curve - 4 / 5 conic - 5 / 4"),
                ("flat clear 0.10", [0, 1, 0, 1, 1, 10], "flat clear 1 / 10"),
                ("radius 1 conic 0/9 clear 8/4", [1, 1, 0, 1, 2, 1], "curve 1 clear 2"),
                ("curve 00012.500", [25, 2, 0, 1, 0, 1], "curve 25 / 2")):
            with self.subTest(shape):
                self.assertEqual(self.shaped(shape), (seen, form))

    def test_a_surface_has_its_parts_in_order(self):
        text = "glass a:1,1,1;start a;surface s after 1/2 into a radius 3 conic 4 clear 5;"
        self.assertEqual(told(read(text), printed())[1],
                         told_bytes("glass a : 1 , 1 , 1 ;\nstart a ;\n"
                                    "surface s after 1 / 2 into a curve 1 / 3 conic 4 clear 5 ;\n"))


class Refused(unittest.TestCase):
    # Each call's refusals where there is a system, but those of read.
    REFUSALS = (
        (name(0, 3), [-1]), (name(1, 7), [-1]), (name(2, 0), [-1]), (name(4294967295, 0), [-1]),
        (name(0, 4294967295), [-1]), (name(1, 4294967295), [-1]),
        (find(2, "air"), [-1]), (find(4294967295, "air"), [-1]), (find(2, ""), [-1]),
        (find(0, "s1"), [-4]), (find(1, "air"), [-4]), (find(0, ""), [-4]), (find(0, "ai"), [-4]),
        (find(0, "airs"), [-4]), (find(0, "AIR"), [-4]), (find(0, "glass"), [-4]), (find(1, [0, 255]), [-4]),
        (find(1, "x" * 15000), [-4]), (look(7), [-1]), (look(4294967295), [-1]))

    def test_refusals(self):
        for call, answer in self.REFUSALS:
            with self.subTest(call[:5]):
                self.assertEqual(told(read(TEXT), call, printed()), [[0, 7], answer, told_bytes(FORM)])

    def test_no_element_to_look_at(self):
        self.assertEqual(told(read("glass a:1,1,1;start a;"), look(0), name(1, 0), find(1, "a"))[1:],
                         [[-1], [-1], [-4]])

    def test_where_there_is_no_system(self):
        asked = (printed(), count(), name(0, 0), find(0, "air"), look(0), name(2, 0), find(2, "air"), look(9))
        for call in asked:
            with self.subTest(call):
                self.assertEqual(told(call), [[-2]])
                self.assertEqual(told(read(TEXT), forget(), call), [[0, 7], [0], [-2]])
                self.assertEqual(told(read("glass"), call), [[-7, 2, 5], [-2]])

    def test_what_stands_behind_a_refused_call_is_answered(self):
        self.assertEqual(told(find(0, "air"), name(0, 0), look(0), read(OTHER), find(0, "b")),
                         [[-2], [-2], [-2], [0, 1], [0, 1]])

    def test_a_refused_read_leaves_what_is_kept(self):
        for text, answer in (("", [-7, 2, 0]), (OTHER + "?", [-7, 1, len(OTHER)]),
                             (OTHER + OTHER, [-7, 2, len(OTHER)]), (" " * 16385, [-1])):
            with self.subTest(answer):
                self.assertEqual(told(read(TEXT), read(text), printed(), count()),
                                 [[0, 7], answer, told_bytes(FORM), [0, 3, 7, 0]])

    def test_too_many_bytes(self):
        self.assertEqual(told(read(OTHER + " " * (16384 - len(OTHER)))), [[0, 1]])
        self.assertEqual(told(read(OTHER + " " * (16385 - len(OTHER)))), [[-1]])
        self.assertEqual(told(read("?" * 16384)), [[-7, 1, 0]])
        self.assertEqual(told(read("?" * 16385)), [[-1]])


class OnlyRead(list):
    """A list that refuses to be changed."""

    def refuse(self, *_, **__):
        raise AssertionError("what is handed in was changed")

    __setitem__ = __delitem__ = __iadd__ = __imul__ = refuse
    append = extend = insert = pop = remove = clear = sort = reverse = refuse


class Interface(unittest.TestCase):
    def test_the_empty_list(self):
        self.assertEqual(answers([]), [])

    def test_how_answers_stand(self):
        calls = [3, 0, len(OTHER)] + as_bytes(OTHER) + [3, 1, 1, 2, 0, 0]
        self.assertEqual(answers(calls), [1, -2, 2, 0, 1, 4, 0, 2, 1, 1, 1, 0, 1, 0, 1, -2, 3, -7, 2, 0])
        calls = [0, len(OTHER)] + as_bytes(OTHER) + [4, 0, 1, 5, 1, 1, 115, 6, 0, 4, 9, 9]
        self.assertEqual(answers(calls), [2, 0, 1, 3, 0, 1, 98, 2, 0, 0, 11, 0, 2, 0, 1, 1, 0, 1, 0, 1, 0, 1, 1, -1])

    def test_bytes_are_told_as_how_many_and_then_they(self):
        text = "glass a : 1 , 1 , 1 ;\nstart a ;\n"
        row = as_bytes(text)
        self.assertEqual(answers([0, len(row)] + row + [2]), [2, 0, 0, len(row) + 2, 0, len(row)] + row)

    def test_what_is_handed_in_is_as_it_was_and_a_second_time_answers_the_same(self):
        calls = read(TEXT) + printed() + read("glass x") + name(0, 1) + find(1, "m") + look(4) + forget() + count()
        copy = list(calls)
        first = answers(calls)
        self.assertEqual(calls, copy)
        self.assertEqual(answers(calls), first)
        self.assertEqual(calls, copy)

    def test_what_is_handed_in_is_not_changed_for_a_while_either(self):
        calls = OnlyRead(read(TEXT) + printed() + read("glass x") + name(0, 1) + find(1, "m") + look(4) + forget())
        self.assertEqual(answers(calls), answers(list(calls)))

    def test_it_prints_reads_and_imports_nothing(self):
        calls = read(TEXT) + printed() + read("glass x") + name(0, 1) + find(1, "m") + look(4) + forget() + count()
        expected = answers(calls)
        there = set(sys.modules)
        with mock.patch.multiple(builtins, print=None, open=None, input=None, __import__=None), \
                mock.patch.object(sys, "stdout", None), mock.patch.object(sys, "stdin", None):
            row = answers(calls)
        self.assertEqual(row, expected)
        self.assertEqual(set(sys.modules), there)

    def test_long_inputs_are_gone_through_by_loops(self):
        long = [read("#\n" * 7000 + OTHER), read("glass " + "a" * 15000), find(1, "a" * 15000), read("1" * 15000)]
        many = [read(OTHER) + (count() + look(0) + printed()) * 130]
        depth = 0
        frame = sys._getframe()
        while frame is not None:
            depth, frame = depth + 1, frame.f_back
        limit = sys.getrecursionlimit()
        for calls in long + many:
            sys.setrecursionlimit(depth + 50)
            try:
                row = answers(calls)
            finally:
                sys.setrecursionlimit(limit)
            self.assertTrue(row)

    def test_what_is_given_back_belongs_to_the_caller(self):
        calls = read(TEXT) + name(0, 0)
        first = answers(calls)
        kept = list(first)
        first.clear()
        self.assertEqual(answers(calls), kept)

    def test_nothing_is_kept_from_one_time_to_the_next(self):
        answers(read(TEXT))
        self.assertEqual(answers(count()), [1, -2])

    def test_whole_numbers_and_lists_alone(self):
        row = answers(read(TEXT) + printed() + count() + name(1, 2) + find(1, "m") + look(4) + look(9))
        self.assertIs(type(row), list)
        self.assertEqual({type(number) for number in row}, {int})

    def test_four_hundred_calls(self):
        row = told(*([read(OTHER)] + [count(), look(0), forget(), read(OTHER)] * 99 + [count()]))
        self.assertEqual(row, [[0, 1]] + [[0, 2, 1, 1], [0, 2, 0, 1, 1, 0, 1, 0, 1, 0, 1], [0], [0, 1]] * 99
                         + [[0, 2, 1, 1]])


if __name__ == "__main__":
    unittest.main()
