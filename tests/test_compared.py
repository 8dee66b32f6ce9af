"""Many made texts, right and wrong ones, compared with the second reader, and the promises held to them."""

import unittest

from helper import Maker, count, expected, first_fault, look, looks, printed, read, told, told_bytes

OTHER = "glass other : 2 , 2 , 2 ;\nstart other ;\n"


class Compared(unittest.TestCase):
    def test_texts_that_tell_a_system(self):
        for seed in range(400):
            with self.subTest(seed):
                text = Maker(seed).text()
                self.assertIsNone(first_fault(text))
                form, seen = expected(text)
                row = told(read(text), printed(), *[look(i) for i in range(len(seen))])
                self.assertEqual(row, [[0, len(seen)], told_bytes(form)] + seen)

    def test_printed_and_read_it_is_the_same(self):
        for seed in range(400, 600):
            with self.subTest(seed):
                text = Maker(seed).text()
                form = told(read(text), printed())[1][2:]
                self.assertEqual(looks(form), looks(text))
                self.assertEqual(told(read(form), printed())[1], [0, len(form)] + form)

    def test_numbers_are_as_long_as_texts_have_them(self):
        for seed in range(600, 700):
            with self.subTest(seed):
                text = Maker(seed).text()
                things = told(read(text))[0][1]
                for row in told(read(text), *[look(i) for i in range(things)])[1:]:
                    self.assertEqual(len(row), 11)
                    self.assertLess(max(abs(number) for number in row), 10 ** 18)

    def compare(self, text):
        fault = first_fault(text)
        answer = told(read(OTHER), read(text), printed())
        if fault is None:
            self.assertEqual(answer[1][0], 0)
            self.assertEqual(answer[2], told_bytes(expected(text)[0]))
            return None
        self.assertEqual(answer[1:], [[-7, fault[0], fault[1]], told_bytes(OTHER)])
        return fault

    def test_texts_that_may_be_wrong(self):
        seen = {}
        for seed in range(5000):
            with self.subTest(seed):
                fault = self.compare(Maker(seed).wrong_text())
                kind = None if fault is None else fault[0]
                seen[kind] = seen.get(kind, 0) + 1
        self.assertEqual(set(seen), {None, 1, 2, 3, 4, 5, 6})

    def test_a_fault_hangs_on_64_bytes_behind_its_place(self):
        kinds = set()
        for seed in range(5000, 7000):
            text = Maker(seed).wrong_text()
            answer = told(read(text))[0]
            if answer[0] == 0 or answer[2] + 64 >= len(text):
                continue
            kinds.add(answer[1])
            kept = text[:answer[2] + 64]
            with self.subTest(seed):
                for rest in ("", "?", "0" * 70, "a" * 70, "\n;", "glass "):
                    self.assertEqual(told(read(kept + rest)), [answer])
        self.assertEqual(kinds, {1, 2, 3, 4, 5, 6})

    def test_every_beginning_of_a_text(self):
        text = Maker(7).text()
        for end in range(min(len(text), 700)):
            with self.subTest(end):
                self.compare(text[:end])

    def test_counts(self):
        for seed in range(50):
            text = Maker(seed).text()
            form, seen = expected(text)
            lines = [line.split() for line in form.splitlines()]
            glasses = [line[1] for line in lines if line[0] == "glass"]
            start = [line[1] for line in lines if line[0] == "start"][0]
            with self.subTest(seed):
                self.assertEqual(told(read(text), count())[1], [0, len(glasses), len(seen), glasses.index(start)])


if __name__ == "__main__":
    unittest.main()
