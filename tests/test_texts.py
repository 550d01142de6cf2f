import inspect
import unittest

from tests.cases import LotCase
from tests.samples import WIDTHS, lots_of, odd_values, sample_lots
from xorturns import texts
from xorturns.boards import Board
from xorturns.errors import BadText
from xorturns.masksets import MaskSet
from xorturns.texts import lot_text, parse_lot

# The digits three and zero of other scripts, and what Python's int takes for a number though the document does not.
ODD_NUMBERS = (
    "00", "01", "03", "000", "+1", "-1", "-0", "+0", "1_0", "0_0", "_1", "1_", "\u0663", "\uff13", "\u0660", "\u00b2",
    "\u0967", "1\n", "\n1", "\n", "1\t", "\t1", "1.0", "1e0", "0x1", "0b1", "a", "lot", "None", "True", "1,", "'1'",
    "9" * 100, "9" * 2000, "0" * 2000, "9" * 5000, "1\r", "\x0b1", "1\u00a0", "\u20031")


class InterfaceTest(unittest.TestCase):

    def test_names_and_parameters(self):
        for name, parameters in {"lot_text": "(lot)", "parse_lot": "(text)"}.items():
            self.assertEqual(str(inspect.signature(getattr(texts, name))), parameters)


class ExamplesTest(LotCase):

    def test_texts(self):
        values = [lot_text((3, (0, 5))), parse_lot("lot 3 0 5"), parse_lot("lot 2")]
        self.assertEqual(repr(values), "['lot 3 0 5', (3, (0, 5)), (2, ())]")

    def test_bad_text(self):
        self.check_raises(BadText, "index", 3, parse_lot, "lot 2 0 0")


class TextsTest(LotCase):

    def test_there_and_back(self):
        for width in WIDTHS:
            for lot in sample_lots(width):
                wanted = "".join(["lot ", str(width), *[" " + str(x) for x in lot[1]]])
                self.check_call(wanted, lot_text, lot)
                self.check_call(lot, parse_lot, wanted)
                self.check_lot(parse_lot(wanted), width, lot[1])


class BadTextTest(LotCase):

    def check(self, index, text):
        with self.subTest(text=text):
            self.check_raises(BadText, "index", index, parse_lot, text)

    def test_no_texts(self):
        for value in (*odd_values(), 0, 2, 10 ** 40 - 1, (2, (0, 3)), ["lot 2 0"], ("lot", "2"), b"lot 2",
                      MaskSet((2, (0,))), Board((2, (0,)))):
            if not isinstance(value, str):
                self.check(None, value)

    def test_first_word(self):
        for text in ("", " ", "  ", "\n", "Lot 2", "LOT 2", "lots 2", "lo 2", "lot\n2", "lot\n", "\nlot 2", " lot 2",
                     " lot", "2", "2 0 3", "lot2", "lot\t2", "2 lot", "a b\n~" * 400, "lot,2", "\u00a0lot 2"):
            self.check(0, text)

    def test_width(self):
        for text in ("lot", "lot ", "lot  ", "lot  2", "lot 0", "lot 7", "lot 8", "lot 10", "lot 64", "lot lot", "lot 2\n",
                     "lot 2\n0", "lot \n2", "lot 7 200", "lot 0 0", "lot 02 0", "lot x 0 0"):
            self.check(1, text)
        for word in ODD_NUMBERS:
            self.check(1, "lot " + word)
            self.check(1, "lot " + word + " 0 1")

    def test_masks(self):
        for width in WIDTHS:
            start = f"lot {width} "
            for wrong in ("", *ODD_NUMBERS, str(2 ** width), str(2 ** width + 1), "100", "999", "1000"):
                self.check(2, start + wrong)
                self.check(2, start + wrong + " 0")
                self.check(2, start + wrong + " " + wrong)
                self.check(3, start + "0 " + wrong)
                self.check(4, start + "0 1 " + wrong)
                if width > 1:
                    self.check(5, start + "0 1 2 " + wrong + " 3")

    def test_spaces(self):
        self.check(2, "lot 2 ")
        self.check(2, "lot 2  0")
        self.check(3, "lot 2 0 ")
        self.check(3, "lot 2 0  3")
        self.check(4, "lot 2 0 3 ")
        self.check(3, "lot 2 0\n3".replace("\n", " \n"))
        self.check(2, "lot 2 0\n3")

    def test_masks_that_do_not_ascend(self):
        for width in WIDTHS:
            for first in range(2 ** width):
                for second in range(2 ** width):
                    text = f"lot {width} {first} {second}"
                    if first < second:
                        self.assertEqual(parse_lot(text), (width, (first, second)))
                    else:
                        self.check(3, text)
        self.check(4, "lot 3 0 2 1")
        self.check(4, "lot 3 0 2 2 3")
        self.check(4, "lot 3 5 6 0 9")
        self.check(66, "lot 6 " + " ".join(map(str, range(65))))
        self.check(4, "lot 1 0 1 2")

    def test_one_sign_changed(self):
        """Whatever is read is the lot whose text it is."""
        for lot in ((3, (0, 5)), (6, (9, 10, 63)), (1, ()), (2, (0, 1, 2, 3))):
            text = lot_text(lot)
            for at in range(len(text) + 1):
                for sign in ("", " ", "0", "1", "5", "9", "\n", "-", "lot"):
                    for changed in (text[:at] + sign + text[at:], text[:at] + sign + text[at + 1:]):
                        try:
                            found = parse_lot(changed)
                        except BadText as error:
                            self.assertIs(type(error.index), int)
                        else:
                            self.assertEqual(lot_text(found), changed)

    def test_each_lot_has_its_own_text(self):
        for width in (1, 2, 3):
            self.assertEqual(len({lot_text(lot) for lot in lots_of(width)}), len(lots_of(width)))


if __name__ == "__main__":
    unittest.main()
