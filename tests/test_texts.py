"""The module texts of point [12] of the document, checked against its own words."""

import random
import unittest

from meshmend.errors import BadText
from meshmend.texts import net_text, read_net
from tests.nets import ODD_VALUES, SHEETS, ExactTest, all_bars, all_tears, ends_as_told, samples


def whole_sign_as_told(sheet, bar):
    """A backslash if the left knot is the upper one, otherwise a slash."""
    upper, lower = ends_as_told(sheet, bar)
    return "\\" if upper[1] < lower[1] else "/"


def text_as_told(sheet, tear):
    text = ""
    for bar in all_bars(sheet):
        text += "." if bar in tear else whole_sign_as_told(sheet, bar)
        if bar % sheet[1] == sheet[1] - 1:
            text += "\n"
    return text


def goes_on(text):
    """Whether the text is the beginning of the text of some sheet with some tear."""
    lines = text.split("\n")
    full, last = lines[:-1], lines[-1]
    # Of a last line without signs nothing has begun yet.
    if len(full) + (last != "") > 8 or max([len(line) for line in lines]) > 8:
        return False
    if full and (full[0] == "" or any(len(line) != len(full[0]) for line in full) or len(last) > len(full[0])):
        return False
    for row, line in enumerate(lines):
        for col, sign in enumerate(line):
            if sign != "." and sign != whole_sign_as_told((8, 8), row * 8 + col):
                return False
    return True


def read_as_told(value):
    """The pair of the sheet and the tear, or a list of the line and the sign that are raised."""
    if type(value) is not str:
        return [-1, -1]
    for at in range(len(value)):
        if not goes_on(value[:at + 1]):
            ahead = value[:at].split("\n")
            return [len(ahead) - 1, len(ahead[-1])]
    lines = value.split("\n")
    if len(lines) == 1 or lines[-1] != "":
        return [len(lines) - 1, len(lines[-1])]
    sheet = (len(lines) - 1, len(lines[0]))
    return (sheet, tuple([bar for bar, sign in enumerate("".join(lines)) if sign == "."]))


def changed(text, dice):
    """The text with one or two signs put otherwise."""
    for _ in range(dice.choice([1, 1, 2])):
        at = dice.randrange(len(text) + 1)
        sign = dice.choice("./\\./\\\n\n x,")
        text = dice.choice([
            text[:at] + text[at + 1:], text[:at] + sign + text[at:], text[:at] + sign + text[at + 1:], text[:at],
            text + text[at:], text[:at] + text[at:].replace("/", "\\"), text + sign,
        ])
    return text


class TextsTest(ExactTest):
    def assert_read(self, value):
        expected = read_as_told(value)
        if type(expected) is tuple:
            self.assert_exactly(read_net(value), expected)
        else:
            with self.assertRaises(BadText) as seen:
                read_net(value)
            self.assert_exactly([seen.exception.line, seen.exception.sign], expected)
        return expected

    def assert_bad(self, line, sign, value):
        self.assert_exactly(self.assert_read(value), [line, sign])

    def test_texts_there_and_back(self):
        for sheet, tear in samples(600):
            text = net_text(sheet, tear)
            self.assert_exactly(text, text_as_told(sheet, tear))
            self.assert_exactly(read_net(text), (sheet, tear))

    def test_all_tears_of_small_sheets(self):
        for sheet in ((1, 1), (1, 3), (2, 2), (3, 1), (2, 3), (3, 2)):
            for tear in all_tears(sheet):
                self.assert_exactly(net_text(sheet, tear), text_as_told(sheet, tear))
                self.assert_exactly(self.assert_read(net_text(sheet, tear)), (sheet, tear))

    def test_whole_sheets(self):
        self.assert_exactly(net_text((1, 1), ()), "\\\n")
        self.assert_exactly(net_text((2, 3), ()), "\\/\\\n/\\/\n")
        self.assert_exactly(net_text((3, 2), (0, 1, 2, 3, 4, 5)), "..\n..\n..\n")

    def test_texts_with_signs_put_otherwise(self):
        dice = random.Random(601)
        seen = {"right": 0, "wrong": 0, "early": 0}
        for sheet, tear in samples(602, SHEETS, 3):
            text = changed(net_text(sheet, tear), dice)
            told = self.assert_read(text)
            behind = text.split("\n")
            early = told == [len(behind) - 1, len(behind[-1])]
            seen["right" if type(told) is tuple else "early" if early else "wrong"] += 1
        self.assertGreater(min(seen.values()), 50)

    def test_short_texts_of_all_signs(self):
        texts = [""]
        for _ in range(5):
            texts = [text + sign for text in texts for sign in "./\\\n"]
            for text in texts:
                self.assert_read(text)

    def test_any_value(self):
        for value in ODD_VALUES + ([".", "\n"], (".\n",), {".\n": 1}):
            self.assert_read(value)
            if type(value) is not str:
                self.assert_bad(-1, -1, value)
        for sign in [chr(code) for code in range(32, 127)]:
            if sign not in ".\\":
                self.assert_bad(0, 0, sign + "\n")
            if sign not in "./":
                self.assert_bad(0, 1, "." + sign + "\n")

    def test_texts_that_end_too_early(self):
        self.assert_bad(0, 0, "")
        self.assert_bad(0, 1, ".")
        self.assert_bad(0, 2, "./")
        self.assert_bad(1, 1, "./\n/")
        self.assert_bad(1, 2, "./\n..")
        self.assert_bad(0, 8, "." * 8)
        self.assert_bad(7, 8, ("." * 8 + "\n") * 7 + "." * 8)
        self.assert_bad(7, 3, ("." * 8 + "\n") * 7 + "." * 3)

    def test_signs_that_cannot_stand(self):
        self.assert_bad(0, 0, "\n")
        self.assert_bad(0, 0, "/")
        self.assert_bad(0, 1, ".\\")
        self.assert_bad(1, 0, ".\n\\\n")
        self.assert_bad(0, 1, ". \n")
        self.assert_bad(0, 0, "\n.\n")
        self.assert_bad(0, 1, "\\x")
        self.assert_bad(0, 0, "x")

    def test_lines_as_long_as_the_first_one(self):
        self.assert_bad(1, 0, "./\n\n")
        self.assert_bad(1, 1, "./\n.\n..\n")
        self.assert_bad(1, 2, "./\n...\n")
        self.assert_bad(2, 0, ".\n.\n\n")
        self.assert_bad(1, 1, ".\n..")
        self.assert_bad(1, 0, ".\n\n.\n")

    def test_the_ninth_sign_and_line(self):
        line = "." * 8 + "\n"
        self.assert_exactly(self.assert_read(line * 8), ((8, 8), tuple(range(64))))
        self.assert_bad(0, 8, "." * 9)
        self.assert_bad(0, 8, "." * 9 + "\n")
        self.assert_bad(8, 0, line * 9)
        self.assert_bad(8, 0, line * 8 + ".")
        self.assert_bad(8, 0, line * 8 + "\n")
        self.assert_bad(8, 0, ".\n" * 8 + "x")
        self.assert_bad(1, 8, line + "." * 9)
        self.assert_bad(0, 8, "." * 3000)
        self.assert_bad(8, 0, ".\n" * 1500)

    def test_other_ends_of_lines(self):
        self.assert_bad(0, 1, ".\r\n")
        self.assert_bad(0, 1, ".\x0b")
        self.assert_bad(0, 1, ".\x1c.\n")

    def test_arguments_by_name(self):
        self.assert_exactly(net_text(tear=(1, 4), sheet=(2, 3)), "\\.\\\n/./\n")
        self.assert_exactly(read_net(value="./\n"), ((1, 2), (0,)))

    def test_the_example_of_the_document(self):
        found = [net_text((2, 3), (1, 4)), read_net("./\n")]
        self.assert_exactly(found, ["\\.\\\n/./\n", ((1, 2), (0,))])


if __name__ == "__main__":
    unittest.main()
