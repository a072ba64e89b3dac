"""The module edges of point [10] of the document, checked against its own words."""

import itertools
import random
import unittest

from meshmend.edges import edge_error, even_edge, fall, is_even, round_of, takings
from meshmend.errors import NoEdge
from tests.nets import ODD_VALUES, ExactTest


def short_edges(most):
    for size in range(1, most + 1):
        for letters in itertools.product("NTB", repeat=size):
            yield "".join(letters)


def edge_error_as_told(value):
    if type(value) is not str:
        return -1
    if value == "":
        return 0
    wrong = [number for number, sign in enumerate(value[:200]) if sign not in "NTB"]
    if wrong:
        return wrong[0]
    return 200 if len(value) > 200 else None


def fall_as_told(edge):
    """Go the steps one by one."""
    row = col = 0
    for letter in edge:
        if letter == "N":
            row += 2
        elif letter == "T":
            col += 2
        else:
            row, col = row + 1, col + 1
    return (row, col)


def even_edge_as_told(down, aside):
    """The j-th letter of those that are no B ends the first stretch in which j of them are due."""
    straight, both = abs(down - aside) // 2, min(down, aside)
    many = straight + both
    letters = ["B"] * many
    for j in range(1, straight + 1):
        letters[-(-j * many // straight) - 1] = "N" if down > aside else "T"
    return "".join(letters)


def is_even_as_told(edge):
    for size in range(1, len(edge) + 1):
        stretches = [edge[at:at + size] for at in range(len(edge) - size + 1)]
        for letter in "NTB":
            counts = {stretch.count(letter) for stretch in stretches}
            if max(counts) - min(counts) > 1:
                return False
    return True


def round_as_told(edge):
    for size in range(1, len(edge) + 1):
        if any(edge[:size] * times == edge for times in range(1, len(edge) + 1)):
            return edge[:size]
    return None


class EdgesTest(ExactTest):
    def test_edge_error(self):
        for value in (
            "N", "T", "B", "NTB", "n", "t", "b", "NNx", "xNN", "N N", "N\n", "\nN", " ", "NTBN.", "0", "A", "NB" * 100,
            "NB" * 100 + "T", "N" * 199, "N" * 200, "N" * 201, "T" * 3000, "N" * 199 + "x", "N" * 200 + "x",
            "N" * 199 + "xx", "N" * 201 + "x", "B" * 150 + "," + "B" * 100, "",
        ):
            self.assert_exactly(edge_error(value), edge_error_as_told(value))
        self.assert_exactly(edge_error(""), 0)
        self.assert_exactly(edge_error("N" * 200), None)
        self.assert_exactly(edge_error("N" * 201), 200)
        self.assert_exactly(edge_error("N" * 200 + "x"), 200)
        self.assert_exactly(edge_error("N" * 199 + "xN"), 199)

    def test_edge_error_of_any_value(self):
        for value in ODD_VALUES + (["N"], ("N",), ("N", "T"), {"N": 1}, 78):
            self.assert_exactly(edge_error(value), edge_error_as_told(value))
        for sign in [chr(code) for code in range(32, 127)] + ["\n"]:
            self.assert_exactly(edge_error("NT" + sign), None if sign in "NTB" else 2)

    def test_fall(self):
        for edge in short_edges(6):
            self.assert_exactly(fall(edge), fall_as_told(edge))
        self.assert_exactly([fall("N"), fall("T"), fall("B")], [(2, 0), (0, 2), (1, 1)])
        self.assert_exactly(fall("N" * 200), (400, 0))
        self.assert_exactly(fall("T" * 150 + "B" * 50), (50, 350))

    def test_even_edge_of_all_steps(self):
        for down, aside in itertools.product(range(201), repeat=2):
            if (down + aside) % 2 or down == aside == 0:
                with self.assertRaises(NoEdge):
                    even_edge(down, aside)
            elif down < 60 and aside < 60 or (down + 3 * aside) % 14 == 0:
                edge = even_edge(down, aside)
                self.assert_exactly(edge, even_edge_as_told(down, aside))
                self.assert_exactly(edge_error(edge), None)
                self.assert_exactly(fall(edge), (down, aside))
                self.assertFalse("N" in edge and "T" in edge)

    def test_even_edges_of_one_letter(self):
        self.assert_exactly(even_edge(0, 2), "T")
        self.assert_exactly(even_edge(2, 0), "N")
        self.assert_exactly(even_edge(1, 1), "B")
        self.assert_exactly(even_edge(200, 0), "N" * 100)
        self.assert_exactly(even_edge(0, 200), "T" * 100)
        self.assert_exactly(even_edge(200, 200), "B" * 200)
        self.assert_exactly(even_edge(1, 3), "BT")
        self.assert_exactly(even_edge(3, 1), "BN")

    def test_even_edges_are_even(self):
        for down, aside in itertools.product(range(0, 61, 3), range(0, 61, 3)):
            if (down + aside) % 2 == 0 and down + aside:
                self.assert_exactly(is_even(even_edge(down, aside)), True)
        for down, aside in ((200, 198), (199, 1), (200, 62), (121, 75), (17, 199)):
            self.assert_exactly(is_even(even_edge(down, aside)), True)

    def test_is_even_of_short_edges(self):
        seen = {True: 0, False: 0}
        for edge in short_edges(7):
            self.assert_exactly(is_even(edge), is_even_as_told(edge))
            seen[is_even(edge)] += 1
        self.assertGreater(min(seen.values()), 100)

    def test_is_even_of_longer_edges(self):
        dice, seen = random.Random(500), set()
        for _ in range(300):
            down = dice.randrange(100)
            letters = list(even_edge(down, down % 2 + 2 * dice.randrange(1, 50)))
            if dice.random() < 0.6:
                letters[dice.randrange(len(letters))] = dice.choice("NTB")
            if dice.random() < 0.5:
                letters = letters * 2
            edge = "".join(letters)[:200]
            self.assert_exactly(is_even(edge), is_even_as_told(edge))
            seen.add((is_even(edge), "N" in edge, "T" in edge))
        self.assertTrue({(True, True, False), (False, True, False), (False, True, True)} <= seen)

    def test_is_even_does_not_go_round(self):
        # Going round, the last and the first letters would be two N side by side.
        self.assert_exactly(is_even("NBN"), True)
        self.assert_exactly(is_even("NBBN"), True)
        self.assert_exactly(is_even("NBBBN"), True)
        self.assert_exactly(is_even("NNBB"), False)
        self.assert_exactly(is_even("NTBN"), is_even_as_told("NTBN"))

    def test_round_of(self):
        for edge in short_edges(8):
            self.assert_exactly(round_of(edge), round_as_told(edge))
        for part in ("N", "NT", "NNB", "NTBNB", "BBBBBBBBBT"):
            for times in range(1, 200 // len(part) + 1):
                self.assert_exactly(round_of(part * times), part)
                if len(part) > 1:
                    self.assert_exactly(round_of(part * times + part[0]), part * times + part[0])

    def test_takings(self):
        for one, other in list(itertools.product(range(1, 25), repeat=2)) + [(1000, 7), (7, 1000), (999, 1000)]:
            found = takings(one, other)
            lesser, greater = sorted((one, other))
            told, behind = [], 0
            for k in range(lesser):
                told.append((k + 1) * greater // lesser - behind)
                behind += told[-1]
            self.assert_exactly(found, tuple(told))
            self.assertEqual((len(found), sum(found)), (lesser, greater))
            self.assertLessEqual(max(found) - min(found), 1)

    def test_takings_at_the_limits(self):
        self.assert_exactly(takings(1, 1), (1,))
        self.assert_exactly(takings(1, 1000), (1000,))
        self.assert_exactly(takings(1000, 1), (1000,))
        self.assert_exactly(takings(1000, 1000), (1,) * 1000)
        self.assert_exactly(takings(3, 7), (2, 2, 3))
        self.assert_exactly(takings(1000, 999), (1,) * 998 + (2,))

    def test_somewhat_beyond_the_limits(self):
        self.assert_exactly(even_edge(202, 202), "B" * 202)
        self.assert_exactly(fall("N" * 210), (420, 0))
        self.assert_exactly(is_even("NB" * 110), True)
        self.assert_exactly(round_of("NB" * 110), "NB")
        self.assert_exactly(sum(takings(1003, 1500)), 1500)

    def test_arguments_by_name(self):
        self.assert_exactly(edge_error(value="NX"), 1)
        self.assert_exactly(fall(edge="NB"), (3, 1))
        self.assert_exactly(even_edge(aside=4, down=10), "BBNBNBN")
        self.assert_exactly(is_even(edge="NNBBB"), False)
        self.assert_exactly(round_of(edge="BNBN"), "BN")
        self.assert_exactly(takings(other=3, one=7), (2, 2, 3))

    def test_the_example_of_the_document(self):
        found = [
            fall("NBBTB"), even_edge(10, 4), is_even("NNBBB"), is_even("BNBBN"), round_of("BNBN"), takings(7, 3),
            takings(2, 2),
        ]
        self.assert_exactly(found, [(5, 5), "BBNBNBN", False, True, "BN", (2, 2, 3), (1, 1)])


if __name__ == "__main__":
    unittest.main()
