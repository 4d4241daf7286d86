"""Point 11: what is written, and what is read."""

import unittest
from itertools import product

from ringbar.bars import setting_at
from ringbar.chests import row_at
from ringbar.errors import BadChest, BadRow, BadSetting, NoNote
from ringbar.notes import read, read_row, shown, shown_row
from tests.kinds import no_counts, no_rows, no_settings, no_texts
from tests.order import all_rows, row_count, small_chests

SIGNS = [chr(code) for code in range(32, 127) if chr(code) != "%"] + ["\n", "\r", "\t", "\r\n", "oo", "..", "00"]


def altered(text):
    """The text with a sign put in, left out, or put in the place of another, everywhere."""
    found = [text + text, text[::-1], text + "\n", " " + text, text + " ", text + "\t"]
    for place in range(len(text) + 1):
        found += [text[:place] + sign + text[place:] for sign in SIGNS]
        if place < len(text):
            found.append(text[:place] + text[place + 1:])
            found += [text[:place] + sign + text[place + 1:] for sign in SIGNS]
    return found


class SettingsTest(unittest.TestCase):
    def test_ordinary_settings(self):
        for setting, text in (
            ((0,), "."), ((1,), "o"), ((0, 1), ".o"), ((1, 0), "o."), ((0, 1, 1, 0), ".oo."), ((1, 0, 0), "o.."),
            ((0,) * 39 + (1,), "." * 39 + "o"), ((1,) * 40, "o" * 40),
        ):
            self.assertEqual(shown(setting), text)
            self.assertEqual(read(text), setting)

    def test_the_kinds_that_are_told(self):
        self.assertIs(type(shown((0, 1))), str)
        self.assertIs(type(read(".o")), tuple)
        self.assertEqual([type(cell) for cell in read(".o")], [int, int])

    def test_what_is_written_is_read_to_the_same(self):
        for rings in range(1, 8):
            for setting in product((0, 1), repeat=rings):
                self.assertEqual(shown(setting), "".join("o" if cell == 1 else "." for cell in setting))
                self.assertEqual(read(shown(setting)), setting)
        for number in range(0, 2 ** 40, 2 ** 40 // 300):
            self.assertEqual(read(shown(setting_at(40, number))), setting_at(40, number))

    def test_altered_texts(self):
        for text in (".", "o", ".o", "o..", ".oo.o", "o" * 40, ".o" * 20, "o" * 39):
            for other in altered(text):
                self.see(other)

    def test_all_short_texts(self):
        for many in range(5):
            for signs in product("o.O0 1\n-", repeat=many):
                self.see("".join(signs))

    def see(self, text):
        if 1 <= len(text) <= 40 and all(sign in "o." for sign in text):
            self.assertEqual(shown(read(text)), text)
        else:
            with self.assertRaises(NoNote):
                read(text)

    def test_what_is_no_note(self):
        for thing in no_texts() + ["", "o" * 41, "." * 1000, "O", "0", "1", "(0, 1)", "o,.", "o .", "o.\n", "\n"]:
            with self.assertRaises(NoNote):
                read(thing)

    def test_objects_of_derived_classes_are_no_notes(self):
        class Text(str):
            pass

        with self.assertRaises(NoNote):
            read(Text("o."))

    def test_what_is_no_setting(self):
        for thing in no_settings():
            with self.assertRaises(BadSetting):
                shown(thing)


class RowsTest(unittest.TestCase):
    def test_ordinary_rows(self):
        for counts, row, text in (
            ([2], (0,), "0"), ([2], (1,), "1"), ([9], (8,), "8"), ([3, 2], (2, 1), "21"), ([2, 3], (1, 2), "12"),
            ([9] * 12, (0, 1, 2, 3, 4, 5, 6, 7, 8, 0, 1, 2), "012345678012"), ([9, 2, 5], (0, 0, 0), "000"),
        ):
            self.assertEqual(shown_row(counts, row), text)
            self.assertEqual(read_row(counts, text), row)

    def test_the_kinds_that_are_told(self):
        self.assertIs(type(shown_row([2, 3], (1, 2))), str)
        self.assertIs(type(read_row([2, 3], "12")), tuple)
        self.assertEqual([type(position) for position in read_row([2, 3], "12")], [int, int])

    def test_what_is_written_is_read_to_the_same(self):
        for counts in small_chests(40):
            for row in all_rows(counts):
                text = shown_row(counts, row)
                self.assertEqual(text, "".join(str(position) for position in row))
                self.assertEqual(read_row(counts, text), row)
        for counts in ([9] * 12, [2, 3, 4, 5, 6, 7, 8, 9, 2, 3, 4, 5]):
            for number in range(0, row_count(counts), row_count(counts) // 300):
                row = row_at(counts, number)
                self.assertEqual(read_row(counts, shown_row(counts, row)), row)

    def test_altered_texts(self):
        for counts in ([2], [9], [2, 3], [4, 9, 2], [2, 3, 4, 5, 6, 7, 8, 9, 2, 3, 4, 5], [9] * 12):
            for number in (0, row_count(counts) // 2, row_count(counts) - 1):
                for other in altered(shown_row(counts, row_at(counts, number))):
                    self.see(counts, other)

    def test_all_short_texts(self):
        for counts in ([2], [3, 2], [2, 9, 3]):
            for many in range(5):
                for signs in product("0123 9-o", repeat=many):
                    self.see(counts, "".join(signs))

    def see(self, counts, text):
        right = len(text) == len(counts) and all(text[k] in "012345678"[:counts[k]] for k in range(len(counts)))
        if right:
            self.assertEqual(shown_row(counts, read_row(counts, text)), text)
        else:
            with self.assertRaises(NoNote):
                read_row(counts, text)

    def test_what_is_no_note(self):
        for counts in ([2], [2, 3], [9] * 12):
            zeros = "0" * len(counts)
            for thing in no_texts() + ["", zeros + "0", zeros[1:], zeros[1:] + "9", "o" * len(counts), "-" + zeros, "+1"]:
                with self.assertRaises(NoNote):
                    read_row(counts, thing)

    def test_objects_of_derived_classes_are_no_notes(self):
        class Text(str):
            pass

        with self.assertRaises(NoNote):
            read_row([2, 3], Text("12"))

    def test_what_are_no_counts_is_refused_first(self):
        for thing in no_counts():
            for row in ((0,), (0, 0), [0], None, True, ()):
                with self.assertRaises(BadChest):
                    shown_row(thing, row)
            for text in ("0", "00", "", "x", None, True, 0):
                with self.assertRaises(BadChest):
                    read_row(thing, text)

    def test_what_is_no_row(self):
        for counts in ([2], [9], [2, 3], [5, 4, 3, 2], [9] * 12):
            for thing in no_rows(counts):
                with self.assertRaises(BadRow):
                    shown_row(counts, thing)


if __name__ == "__main__":
    unittest.main()
