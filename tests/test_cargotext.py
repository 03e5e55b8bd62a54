import unittest

from dryholds.cargotext import cargo_text, damages_text, lot_text, parse_cargo, parse_damages, parse_lot
from dryholds.errors import BadCargo, BadText
from tests.helpers import BIG, NO_RATIOS, NO_SEQUENCES, Case, all_lots_of, r

NO_NUMBERS = ("", "-0", "+3", "03", "2/4", "3/1", "1/-2", "-", "/", "1/", "/2", "x", "1.5", "1/0", "0/1", "--1",
              "1/2/3", "1_0", "\u0663", "\u00b2", "1\n", "\t1", "9" * 301, "1/" + "9" * 299)


class Cargoes(Case):
    def test_sign_by_sign(self):
        self.same(cargo_text((r("7/2"), r(-3))), "7/2 -3")
        self.same(cargo_text([r(0), r("-1/3")]), "0 -1/3")
        self.same(cargo_text(((10 ** 5000, 1), (0, 1))), "1" + "0" * 5000 + " 0")

    def test_no_cargoes(self):
        for thing in (*NO_SEQUENCES, (), (r(1),), (r(1), r(1), r(1))):
            self.refused(BadCargo, {"what": "pair"}, cargo_text, thing)
        for thing in (r(-1), *NO_RATIOS):
            self.refused(BadCargo, {"what": "weight"}, cargo_text, (thing, "x"))
        for thing in NO_RATIOS:
            self.refused(BadCargo, {"what": "moment"}, cargo_text, (r(0), thing))

    def test_reading(self):
        for cargo in ((r("7/2"), r(-3)), (r(0), r(0)), ((1, BIG // 1000), (-(BIG // 10), 1)), ((BIG, 1), (BIG, 1))):
            self.same(parse_cargo(cargo_text(cargo)), cargo)

    def test_sizes(self):
        for text in ("", "1", "1 2 3", "1  2", " 1 2", "1 2 ", "x", "1 2\n3 4", "1,2", "1\n2"):
            self.refused(BadText, {"row": 0, "what": "size"}, parse_cargo, text)

    def test_numbers(self):
        for word in NO_NUMBERS:
            self.refused(BadText, {"row": 0, "what": "number"}, parse_cargo, f"{word} 1")
            self.refused(BadText, {"row": 0, "what": "number"}, parse_cargo, f"1 {word}")
        for text in ("-1 0", "-1/7 0", " ", "-1 x"):
            self.refused(BadText, {"row": 0, "what": "number"}, parse_cargo, text)
        self.same(parse_cargo("0 -1"), (r(0), r(-1)))


class Lots(Case):
    def test_sign_by_sign(self):
        self.same(lot_text(()), "none")
        self.same(lot_text([]), "none")
        self.same(lot_text((3,)), "3")
        self.same(lot_text([0, 2, 5]), "0,2,5")

    def test_all_lots_are_read_back(self):
        for lot in all_lots_of(6):
            self.same(parse_lot(lot_text(lot)), lot)

    def test_numbers(self):
        for part in ("", "6", "-1", "00", "+1", "1/2", "x", "none", " 0", "0 ", "10", "\u0663", "1\n", "True"):
            if part != "none":
                self.refused(BadText, {"row": 0, "what": "number"}, parse_lot, part)
            self.refused(BadText, {"row": 0, "what": "number"}, parse_lot, f"0,{part}")
            self.refused(BadText, {"row": 0, "what": "number"}, parse_lot, f"{part},5")
            self.refused(BadText, {"row": 0, "what": "number"}, parse_lot, f"3,1,{part}")
        for text in ("None", "none ", "0,1,", ",", "0;1", "0 1"):
            self.refused(BadText, {"row": 0, "what": "number"}, parse_lot, text)

    def test_order(self):
        for text in ("0,0", "1,0", "0,2,1", "5,5", "0,1,2,3,4,5,5"):
            self.refused(BadText, {"row": 0, "what": "order"}, parse_lot, text)


class Damages(Case):
    def test_sign_by_sign(self):
        self.same(damages_text([(), (0,), [2, 3]]), "none 0 2,3")
        self.same(damages_text(((1, 2),)), "1,2")
        self.same(damages_text([(), ()]), "none none")

    def test_reading(self):
        for damages in (((),), ((0,), (0,), (2, 5)), tuple(all_lots_of(6))):
            self.same(parse_damages(damages_text(damages)), damages)

    def test_wrong_texts(self):
        for text, place, what in (("", 0, "number"), ("none ", 1, "number"), (" 0", 0, "number"), ("0  1", 1, "number"),
                                  ("0 1,0 x", 1, "order"), ("0 6 1,0", 1, "number"), ("none 0 3,3", 2, "order"),
                                  ("0,1 2\n3", 1, "number"), ("1,0,x", 0, "number"), ("none none,1", 1, "number")):
            self.refused(BadText, {"row": place, "what": what}, parse_damages, text)


if __name__ == "__main__":
    unittest.main()
