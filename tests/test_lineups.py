"""ringbars.lineups: line-ups and their texts."""

import unittest
from itertools import permutations, product

from ringbars.errors import BadLineUp, BadLot, BadNumber, BadText, NoBar, Twice
from ringbars.lineups import LineUp, pointing
from tests.common import HUGE, NO_INTEGERS, ODD, Case, as_lists
from tests.plain import all_choices, partitions, subsets

NONE = ODD + ([[(0, 1)], [(1, 1)]], [[(0, 1)], [(1, 1)], [(2, 1)], []], [[(0, 1)], [(1, 1)], []], [[(0, 1)], [(1, 1)], [(1, 1)]],
              [[(0, 1)], [(1, 1)], [(3, 1)]], [[(1, 1)], [(2, 1)], [(3, 1)]], [[(0, 1), (1, 1), (2, 0)]],
              [[(0, 1), (1, 1), (2, 2)]], [[(0, 1), (1, 1), (2, True)]], [[(0, 1), (1, 1), (2, None)]],
              [[(0, 1), (1, 1), (2,)]], [[(0, 1), (1, 1), (2, 1, 1)]], [[(0, 1), (True, 1), (2, 1)]],
              [[(False, 1), (1, 1), (2, 1)]], [[(0, 1), (1, 1), "2+"]], [[(0, 1), (1, 1), 2]],
              [(0, 1), (1, 1), (2, 1)], [[(0, 1)], [(1, 1)], (2, 1)], [[(0, 1)], [(1, 1)], None],
              [[(-1, 1)], [(0, 1)], [(1, 1)]], [[(bar, 1) for bar in range(9)]], [[(bar, 1)] for bar in range(9)],
              {0: [(0, 1), (1, 1), (2, 1)]}, [{(0, 1): 1, (1, 1): 1, (2, 1): 1}], [[(0, 1), (1, 1), {2: 1, 1: 1}]])


def right_texts(many):
    """The text of each line-up of so many bars, by its strands."""
    found = {}
    for lots in partitions(list(range(many))):
        for strands in all_choices(lots):
            rows = [" ".join(("+" if sign == 1 else "-") + str(bar) for bar, sign in strand)
                    for strand in strands]
            found[" / ".join(rows)] = strands
    return found


def is_begun(items):
    """Whether some line-up's text of up to eight bars begins with these items."""
    told, last, starts = [], None, True
    for item in items:
        if item == "/":
            if starts or len(told) == 8:
                return False
            starts = True
            continue
        if len(item) != 2 or item[0] not in "+-" or item[1] not in "01234567":
            return False
        bar = int(item[1])
        if bar in told:
            return False
        if starts and (item[0] == "-" or bar != min(set(range(8)) - set(told))):
            return False
        if not starts and bar < last:
            return False
        told.append(bar)
        last, starts = bar, False
    return True


class LineUpsTest(Case):

    def test_examples(self):
        told = LineUp([[(2, 1)], [(1, 1), (0, -1)], [(4, -1)], [(3, 1)]])
        self.like([str(told), told.strands[0], told.lots, told.many, str(pointing(4, [3, 1]))],
                  ["+0 -1 / +2 / +3 / +4", ((0, 1), (1, -1)), ((0, 1), (2,), (3,), (4,)), 5,
                   "+0 / +1 +3 / +2"])
        self.raises(BadText(0, 3), LineUp.read, "+0 -1 / +3 / +2 / +4")
        self.raises(BadText(0, 2), LineUp.read, "+0 +2")

    def test_all_of_few_bars(self):
        for many in (3, 4, 5):
            for text, strands in right_texts(many).items():
                lineup = LineUp(as_lists(strands))
                self.like([lineup.strands, lineup.many, str(lineup)], [strands, many, text])
                self.like(lineup.lots, tuple(tuple(bar for bar, _ in strand) for strand in strands))
                self.like(LineUp.read(text).strands, strands)
                turned = [[(bar, -sign) for bar, sign in strand[::-1]] for strand in strands[::-1]]
                self.like(LineUp(turned).strands, strands)
                self.assertEqual(LineUp(turned), lineup)

    def test_any_order(self):
        right = LineUp([[(0, 1), (2, -1), (3, 1)], [(1, 1)]])
        for order in permutations([(0, 1), (2, -1), (3, 1)]):
            for turn, strands in product((1, -1), permutations([order, [[1, -1]]])):
                rows = [[(bar, sign * turn) for bar, sign in strand] for strand in strands]
                self.assertEqual(LineUp(rows), right)

    def test_equality(self):
        one = LineUp([[(0, 1), (1, 1)], [(2, 1)]])
        for other in (LineUp([[(0, 1), (1, -1)], [(2, 1)]]), LineUp([[(0, 1)], [(1, 1)], [(2, 1)]]),
                      LineUp([[(0, 1), (1, 1), (2, 1)]]), LineUp([[(0, 1), (1, 1)], [(2, 1)], [(3, 1)]]),
                      None, one.strands, str(one), 1):
            self.assertIs(one == other, False)
            self.assertIs(one != other, True)
        self.assertEqual(one, LineUp([[(2, -1)], [(1, -1), (0, -1)]]))

    def test_what_is_passed_is_copied(self):
        strands = [[[0, 1], [1, 1]], [[2, -1]]]
        lineup = LineUp(strands)
        strands[0][0][1] = -1
        strands[1].append([3, 1])
        self.like(lineup.strands, (((0, 1), (1, 1)), ((2, 1),)))

    def test_wrong(self):
        for value in NONE:
            self.raises(BadLineUp("strands"), LineUp, value)

    def test_pointing(self):
        for many in range(3, 9):
            for lot in subsets(many):
                told = pointing(many, list(lot[::-1]))
                alone = [((bar, 1),) for bar in range(many) if bar not in lot]
                both = ([tuple((bar, 1) for bar in lot)] if lot else []) + alone
                self.like(told.strands, tuple(sorted(both)))
                self.assertEqual(told.many, many)

    def test_wrong_pointing(self):
        for value in NO_INTEGERS + (-1, 0, 2, 9, HUGE):
            self.raises(BadNumber("many"), pointing, value, None)
        for value in ODD:
            if value not in ([], (), [3, 2, 2], (1, 2), [-1]):
                self.raises(BadLot("lot"), pointing, 4, value)
        self.raises(NoBar(4), pointing, 4, [1, 1, 4, 9])
        self.raises(NoBar(-1), pointing, 4, [-1])
        self.raises(NoBar(HUGE), pointing, 4, [0, HUGE])
        self.raises(Twice(1), pointing, 4, (0, 1, 1, 0))

    def test_eight_bars(self):
        text = "+0 -7 / +1 -3 +4 / +2 / +5 +6"
        lineup = LineUp.read(text)
        self.assertEqual(str(lineup), text)
        self.assertEqual(lineup.many, 8)
        self.raises(BadText(0, 11), LineUp.read, text + " /")
        self.raises(BadText(0, 11), LineUp.read, text + " / +8")
        self.raises(BadText(0, 11), LineUp.read, text + " +7")
        self.raises(BadText(0, 10), LineUp.read, text.replace("+6", "+8"))


class ReadTest(Case):

    def reads(self, items, rights):
        """The text of these items is read, or the right item is told."""
        text = " ".join(items)
        if text in rights:
            self.assertEqual(LineUp.read(text).strands, rights[text])
            return
        ends = [at for at in range(len(items)) if not is_begun(items[:at + 1])]
        self.raises(BadText(0, ends[0] if ends else len(items)), LineUp.read, text)

    def test_each_item_changed(self):
        rights = {text: strands for many in (3, 4, 5, 6) for text, strands in right_texts(many).items()}
        others = ("", "/", "+", "-", "0", "+0", "-0", "+1", "-1", "+2", "-2", "+3", "-4", "+5", "-7", "+8", "-9",
                  "+10", "+01", "+00", "--1", "+-1", "+ ", "x", "+1/", "|", "+\u0661", "1", "+1.0", "/ /", "9" * 70)
        texts = [text for text in rights if text.count("+") + text.count("-") == 4][::3]
        for text in texts + ["+0 / +1 / +2", "+0 -1 +2", "+0 +2 / +1", "+0 -4 / +1 +3 / +2"]:
            items = text.split(" ")
            for at in range(len(items) + 1):
                self.reads(items[:at] + items[at + 1:], rights)
                self.reads(items[:at], rights)
                for other in others:
                    self.reads(items[:at] + other.split(" ") + items[at + 1:], rights)
                    self.reads(items[:at] + other.split(" ") + items[at:], rights)

    def test_missing_items(self):
        for text, item in (("+0", 1), ("+0 +1", 2), ("+0 / +1", 3), ("+0 /", 2), ("+0 / +1 / +2 /", 6),
                           ("+0 +7", 2), ("+0 +2 / +1 +4", 5), ("+0 +1 +3", 3), ("+0 +3 / +1 +2 /", 6)):
            self.raises(BadText(0, item), LineUp.read, text)

    def test_blanks(self):
        for text, item in (("", 0), (" ", 0), (" +0 +1 +2", 0), ("+0  +1 +2", 1), ("+0 +1 +2 ", 3),
                           ("+0\t+1 +2", 0), ("+0 +1 +2\n", 2)):
            self.raises(BadText(0, item), LineUp.read, text)

    def test_no_strings(self):
        for value in ODD:
            if not isinstance(value, str):
                self.raises(BadText(0, 0), LineUp.read, value)

    def test_long_texts(self):
        self.raises(BadText(0, 15), LineUp.read, " / ".join(f"+{bar}" for bar in range(8)) + " +0" * 30000)
        self.raises(BadText(0, 0), LineUp.read, "+" * 100000)


if __name__ == "__main__":
    unittest.main()
