"""Many made systems and lists of calls, compared with the second keeper, and the promises held to them."""

import unittest
from fractions import Fraction

from helper import (Keeper, Maker, count, drop, form_behind, index, look, looks, printed, put, read, reverse, scale, thing,
                    told, told_bytes)

FACTORS = ((2, 1), (3, 2), (1, 10), (7, 5), (1000, 1), (6, 4), (999999999999999999, 1), (9223372036854775807, 3))


def small_text(seed):
    """A made text whose numbers aren't too long to be scaled or added."""
    made = Maker(seed)
    made.digits = lambda most=18: str(made.chance.randrange(1000))
    made.whole_above = lambda least=1: str(made.chance.randrange(least, made.pick(3, 10, 100)))
    return made.text()


def fraction(row):
    return Fraction(row[0], row[1])


def worlds(text, *edits):
    """Of each thing behind these edits: what thing answers, as kind, place, indices before, indices behind."""
    things = told(read(text), *edits, count())[-1][2]
    seen = []
    for row in told(read(text), *edits, *[thing(i) for i in range(things)])[1 + len(edits):]:
        values = [fraction(row[at:at + 2]) for at in range(2, 16, 2)]
        seen.append((row[1], values[0], values[1:4], values[4:7]))
    return seen


def shapes(text, *edits):
    """Of each thing behind these edits: curve, conic, clear."""
    things = told(read(text), *edits, count())[-1][2]
    rows = told(read(text), *edits, *[look(i) for i in range(things)])[1 + len(edits):]
    return [(fraction(row[5:7]), fraction(row[7:9]), fraction(row[9:11])) for row in rows]


def opposite(values):
    return [-value for value in values]


class Compared(unittest.TestCase):
    def test_lists_of_calls(self):
        answered = set()
        for seed in range(600):
            made = Maker(seed)
            text = made.text() if seed % 2 else small_text(seed)
            keeper = Keeper(text)
            calls, expected = [], []
            for _ in range(made.pick(3, 10, 30)):
                call = made.call(keeper)
                before = keeper.form()
                expected.append(keeper.answer(call))
                calls.append(call)
                answered.add((call[0], expected[-1][0], expected[-1][1] if expected[-1][0] == -7 else 0))
                if expected[-1][0] < 0:
                    self.assertEqual(keeper.form(), before)
                calls.append(printed())
                expected.append(told_bytes(keeper.form()))
            with self.subTest(seed):
                self.assertEqual(told(read(text), *calls)[1:], expected)
        self.assertEqual(answered, {
            (2, 0, 0), (6, 0, 0), (6, -1, 0), (7, 0, 0), (7, -1, 0), (8, 0, 0), (8, -1, 0), (9, 0, 0), (9, -1, 0),
            *[(9, -7, fault) for fault in range(1, 7)], (10, 0, 0), (10, -1, 0), (10, -6, 0),
            (11, 0, 0), (11, -1, 0), (11, -5, 0), (11, -6, 0), (12, 0, 0), (12, -1, 0), (12, -6, 0), (13, 0, 0)})

    def test_things_of_made_systems(self):
        for seed in range(600, 800):
            text = Maker(seed).text()
            keeper = Keeper(text)
            asked = [thing(i) for i in range(len(keeper.things))] + [index(g) for g in range(len(keeper.glasses))]
            with self.subTest(seed):
                self.assertEqual(told(read(text), *asked)[1:], [keeper.answer(call) for call in asked])

    def test_put_texts(self):
        faults = {}
        for seed in range(800, 2300):
            made = Maker(seed)
            text = made.text()
            keeper = Keeper(text)
            call = put(len(keeper.things), made.put_text(keeper))
            answer = keeper.answer(call)
            kind = answer[1] if answer[0] else 0
            faults[kind] = faults.get(kind, 0) + 1
            with self.subTest(seed):
                self.assertEqual(told(read(text), call, printed())[1:], [answer, told_bytes(keeper.form())])
        self.assertEqual(set(faults), set(range(7)))


class PrintedAndRead(unittest.TestCase):
    def test_behind_edits_it_is_the_same_system(self):
        for seed in range(3000, 3150):
            made = Maker(seed)
            text = made.text() if seed % 2 else small_text(seed)
            keeper, edits = Keeper(text), []
            for _ in range(12):
                edits.append(made.call(keeper))
                keeper.answer(edits[-1])
            form = form_behind(text, *edits)
            with self.subTest(seed):
                self.assertEqual(looks(form), looks(text, *edits))
                self.assertEqual(form_behind(form), form)

    def test_numbers_stay_as_long_as_texts_have_them(self):
        for seed in range(3150, 3250):
            made = Maker(seed)
            text = made.text()
            keeper, edits = Keeper(text), []
            for _ in range(12):
                edits.append(made.call(keeper))
                keeper.answer(edits[-1])
            asked = [look(i) for i in range(len(keeper.things))]
            with self.subTest(seed):
                for row in told(read(text), *edits, *asked)[1 + len(edits):]:
                    self.assertLess(max(abs(number) for number in row), 10 ** 18)


class Put(unittest.TestCase):
    def test_a_fault_hangs_on_64_bytes_behind_its_place(self):
        kinds = set()
        for seed in range(4000, 6000):
            made = Maker(seed)
            text = made.text()
            keeper = Keeper(text)
            row = made.put_text(keeper) + made.pick("", " " * 70, "stop x after 1;" * 6)
            answer = told(read(text), put(0, row))[1]
            if answer[0] == 0 or answer[2] + 64 >= len(row):
                continue
            kinds.add(answer[1])
            with self.subTest(seed):
                kept = row[:answer[2] + 64]
                puts = [put(0, kept + rest) for rest in ("", "?", "0" * 70, "a" * 70, "\n;", "stop ")]
                self.assertEqual(told(read(text), *puts)[1:], [answer] * 6)
        self.assertEqual(kinds, {1, 2, 3, 4, 5, 6})


class Dropped(unittest.TestCase):
    def test_a_dropped_stop_leaves_all_else_in_place(self):
        stops = 0
        for seed in range(6000, 6150):
            text = small_text(seed)
            kinds = [one["kind"] for one in Keeper(text).things]
            for i in [i for i, kind in enumerate(kinds) if kind == "stop"]:
                stops += 1
                with self.subTest(seed):
                    before = worlds(text)
                    self.assertEqual(told(read(text), drop(i))[1], [0])
                    self.assertEqual(worlds(text, drop(i)), before[:i] + before[i + 1:])
        self.assertGreater(stops, 50)


class Scaled(unittest.TestCase):
    def test_the_world_is_larger(self):
        for seed in range(7000, 7100):
            text = small_text(seed)
            p, q = FACTORS[seed % 6]
            larger = Fraction(p, q)
            with self.subTest(seed):
                self.assertEqual(told(read(text), scale(p, q))[1], [0])
                self.assertEqual(worlds(text, scale(p, q)),
                                 [(kind, place * larger, before, behind) for kind, place, before, behind in worlds(text)])
                self.assertEqual(shapes(text, scale(p, q)),
                                 [(curve / larger, conic, clear * larger) for curve, conic, clear in shapes(text)])

    def test_there_and_back(self):
        back, refused = 0, 0
        for seed in range(7100, 7300):
            made = Maker(seed)
            text = made.text() if seed % 2 else small_text(seed)
            p, q = FACTORS[seed % 8]
            with self.subTest(seed):
                if told(read(text), scale(p, q))[1] == [-6]:
                    refused += 1
                    self.assertEqual(looks(text, scale(p, q)), looks(text))
                    continue
                back += 1
                self.assertEqual(told(read(text), scale(p, q), scale(q, p))[2], [0])
                self.assertEqual(looks(text, scale(p, q), scale(q, p)), looks(text))
        self.assertGreater(back, 50)
        self.assertGreater(refused, 50)


class Turned(unittest.TestCase):
    def test_the_world_is_the_same_seen_from_behind(self):
        ways = {True: 0, False: 0}
        for seed in range(8000, 8200):
            text = Maker(seed).text()
            seen = worlds(text)
            odd = len([kind for kind, *_ in seen if kind == 1]) % 2 == 1
            ways[odd] += 1
            last = seen[-1][1] if seen else 0
            turned = []
            for kind, place, before, behind in reversed(seen):
                if odd:
                    turned.append((kind, place - last, opposite(behind), opposite(before)))
                else:
                    turned.append((kind, last - place, behind, before))
            sign = 1 if odd else -1
            with self.subTest(seed):
                self.assertEqual(worlds(text, reverse()), turned)
                self.assertEqual(shapes(text, reverse()),
                                 [(sign * curve, conic, clear) for curve, conic, clear in reversed(shapes(text))])
        self.assertGreater(min(ways.values()), 50)

    def test_twice_it_is_as_it_was_but_for_the_first_gap(self):
        for seed in range(8200, 8400):
            text = Maker(seed).text()
            keeper = Keeper(text)
            for one in keeper.things[:1]:
                one["numbers"][0] = Fraction(0)
            with self.subTest(seed):
                self.assertEqual(form_behind(text, reverse(), reverse()), keeper.form())
                self.assertEqual(looks(text, reverse(), reverse()), looks(keeper.text()))
                self.assertEqual(looks(text, *[reverse()] * 4), looks(text, *[reverse()] * 2))
                self.assertEqual(looks(text, *[reverse()] * 3), looks(text, reverse()))


if __name__ == "__main__":
    unittest.main()
