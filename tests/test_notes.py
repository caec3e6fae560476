"""[13]: written and read; [1] to [3] as far as they speak of these."""

import random
import unittest

from plain_search import some_lights
from skypairs.errors import BadText
from skypairs.notes import read, written
from wrong_things import GOOD, NO_LIGHTS, OTHER_KINDS, SIXTEEN, Refusing

CORNERS = ((-999, 999, 0), (999, -999, 99), (0, 0, 9), (-10, 100, 10))
NO_NUMBERS = (
    "", "-", "--1", "-0", "00", "01", "007", "-00", "-01", "+1", "1000", "-1000", "0000", "1-",
    "1_0", "1.", "1.0", "0x1", "1x", "x", "a", "O", "True", "None", "1,", "\u0661", "\u00b2", "1\t", "\r",
    "-\u0663", "1e1", "- 1",
)
NO_ROWS = (
    "", " ", "0", "0 0", "0 0 0 0", " 0 0 0", "0 0 0 ", "0  0 0", "0 0  0", "0\t0\t0", "0,0,0",
    "0 0 0\r", "lists", "List", "LIST", "list ", " list", "list\r", "list 0 0", "lis", "(0, 0, 0)",
)


class Written(unittest.TestCase):
    def test_rows(self):
        self.assertEqual(written([GOOD, (), ((-7, 0, 99),)]), "list\n0 0 0\n3 4 9\nlist\nlist\n-7 0 99")

    def test_no_lists(self):
        self.assertEqual(written([]), "")
        self.assertEqual(read(""), [])

    def test_lists_without_lights(self):
        self.assertEqual(written([()]), "list")
        self.assertEqual(written([(), ()]), "list\nlist")
        self.assertEqual(read("list"), [()])
        self.assertEqual(read("list\nlist"), [(), ()])

    def test_lowest_and_highest(self):
        text = "list\n-999 999 0\n999 -999 99\n0 0 9\n-10 100 10"
        self.assertEqual(written([CORNERS]), text)
        self.assertEqual(read(text), [CORNERS])

    def test_many_lists(self):
        lists = [SIXTEEN, GOOD, ()] * 20
        self.assertEqual(read(written(lists)), lists)
        self.assertEqual(written(lists).count("list"), 60)

    def test_what_is_written_is_read_to_the_same(self):
        chance = random.Random(15)
        for _ in range(200):
            lists = []
            for _ in range(chance.randint(0, 5)):
                span = chance.choice((3, 30))
                lights = some_lights(chance, chance.randint(0, 16), span, 99)
                factor = 999 // span
                lists.append(tuple((x * factor, y * factor, glow) for x, y, glow in lights))
            text = written(lists)
            self.assertEqual(read(text), lists)
            self.assertEqual(written(read(text)), text)
            self.assertFalse(text.endswith("\n"))

    def test_kinds_of_values(self):
        self.assertIs(type(written([])), str)
        told = read(written([GOOD]))
        self.assertEqual([type(thing) for thing in (told, told[0], told[0][1], *told[0][1])],
                         [list, tuple, tuple, int, int, int])
        self.assertIs(type(read("")), list)

    def test_nothing_is_changed_or_kept(self):
        lists = [GOOD, ()]
        text = written(lists)
        self.assertEqual(lists, [GOOD, ()])
        lists.append(GOOD)
        self.assertEqual(written([GOOD, ()]), text)
        told = read(text)
        told.clear()
        self.assertEqual(read(text), [GOOD, ()])
        self.assertIsNot(read(""), read(""))

    def test_by_name(self):
        self.assertEqual(read(text=written(lists=[GOOD])), [GOOD])


class Refusals(Refusing, unittest.TestCase):
    def bad_text(self, row, text):
        told = self.refused(BadText, read, text).row
        self.assertEqual(told, row)
        self.assertIs(type(told), int)

    def test_no_lists_written(self):
        for thing in OTHER_KINDS + ((), GOOD, (GOOD,)):
            if thing != []:
                with self.subTest(thing=thing):
                    self.bad_lights(0, written, thing)

    def test_no_lights_written(self):
        for things, number in NO_LIGHTS:
            with self.subTest(things=things):
                self.bad_lights(number, written, [things])
                self.bad_lights(number, written, [GOOD, (), things, None])
                self.bad_lights(0, written, [GOOD, list(GOOD), things])

    def test_no_text(self):
        for thing in OTHER_KINDS + ((), GOOD, [GOOD], b"", b"list"):
            if type(thing) is not str:
                with self.subTest(thing=thing):
                    self.bad_text(0, thing)

    def test_rows(self):
        for row in NO_ROWS:
            with self.subTest(row=row):
                if row:
                    self.bad_text(0, row)
                self.bad_text(0, row + "\nlist")
                self.bad_text(1, "list\n" + row)
                self.bad_text(2, "list\n0 0 0\n" + row + "\n1 0 0")
                self.bad_text(3, "list\n0 0 0\nlist\n" + row + "\nlist")

    def test_numbers(self):
        for word in NO_NUMBERS:
            with self.subTest(word=word):
                for row in (f"{word} 0 0", f"0 {word} 0", f"0 0 {word}"):
                    self.bad_text(1, "list\n" + row)
                    self.bad_text(4, "list\nlist\n5 5 5\n6 6 6\n" + row + "\nno")
        for word in ("0", "9", "10", "99", "-1", "-10", "-99", "100", "999", "-100", "-999"):
            number = int(word)
            self.assertEqual(read(f"list\n{word} {word} 7"), [((number, number, 7),)])

    def test_a_line_end_too_many(self):
        self.bad_text(0, "\n")
        self.bad_text(1, "list\n")
        self.bad_text(0, "\nlist")
        self.bad_text(1, "list\n\nlist")
        self.bad_text(2, "list\n0 0 0\n")
        self.bad_text(2, "list\n0 0 0\n\n1 1 1")
        self.bad_text(0, "list\r\n0 0 0")

    def test_a_light_ahead_of_all_lists(self):
        self.bad_text(0, "0 0 0")
        self.bad_text(0, "0 0 0\nlist\n0 0 0")
        self.bad_text(0, "5 5 5\nno")

    def test_the_first_row_that_is_wrong(self):
        self.bad_text(1, "list\nno\nno")
        self.bad_text(0, "no\nlist\nno")

    def test_numbers_that_no_light_has(self):
        self.bad_lights(0, read, "list\n0 0 100")
        self.bad_lights(1, read, "list\n0 0 99\n1 0 -1\n2 0 -1")
        self.bad_lights(1, read, "list\n1 1 1\nlist\n0 0 0\n1 0 999")
        self.bad_lights(0, read, "list\n0 0 -999\nlist\n0 0 0\n0 0 0")

    def test_two_at_one_place(self):
        self.bad_lights(2, read, "list\n0 0 5\n1 1 1\n0 0 6")
        self.assertEqual(read("list\n0 0 5\nlist\n0 0 5"), [((0, 0, 5),), ((0, 0, 5),)])

    def test_a_seventeenth_light(self):
        text = written([GOOD, SIXTEEN])
        self.assertEqual(read(text), [GOOD, SIXTEEN])
        self.bad_lights(16, read, text + "\n0 1 0")
        self.bad_lights(16, read, text + "\n0 1 0\n0 2 0\nlist")
        self.bad_lights(16, read, text + "\n0 0 100")

    def test_text_is_refused_ahead_of_lights(self):
        self.bad_text(3, "list\n0 0 100\n0 0 100\nno")
        self.bad_text(18, written([SIXTEEN]) + "\n0 1 0\n0 1 -0")
        self.bad_text(2, "list\n0 0 -5\n")


if __name__ == "__main__":
    unittest.main()
