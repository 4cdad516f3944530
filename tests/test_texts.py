import unittest

from oneflip.errors import BadText
from oneflip.texts import integer_at, integer_of, item_at, items_of, need_end, need_item
from tests.tools import NO_STRINGS, Case


class Texts(Case):
    def test_items(self):
        for text, items in (("", [""]), ("a", ["a"]), ("a b", ["a", "b"]), (" a  b ", ["", "a", "", "b", ""]),
                            ("a\tb\nc\u00a0d", ["a\tb\nc\u00a0d"])):
            self.same(items_of(text), items)
        for value in NO_STRINGS:
            self.fails(BadText(0, 0), items_of, value)

    def test_integers(self):
        for value in (0, 1, -1, 9, 10, 100, -120, 10 ** 139, 10 ** 140 - 1, 1 - 10 ** 140):
            self.same(integer_of(str(value)), value)
        for item in ("", "-", "-0", "00", "01", "-01", "+1", "--1", "1-", " 1", "1 ", "1\r", "1\n", "1_0", "1.0", "0x1",
                     "1e3", "\u0663", "\u00b2", "\u0967", "\uff11", "a", "/", "1" + "0" * 140, "-1" + "0" * 140,
                     "9" * 141, "9" * 6000):
            self.same(integer_of(item), None, item)

    def test_places(self):
        items = ["2", "x", "-3"]
        self.same(item_at(items, 1), "x")
        self.fails(BadText(0, 3), item_at, items, 3)
        self.fails(BadText(0, 3), item_at, items, 4)
        self.same(integer_at(items, 0, 0, 2), 2)
        self.same(integer_at(items, 2, -3, None), -3)
        self.fails(BadText(0, 0), integer_at, items, 0, 0, 1)
        self.fails(BadText(0, 0), integer_at, items, 0, 3, None)
        self.fails(BadText(0, 1), integer_at, items, 1, None, None)
        self.fails(BadText(0, 3), integer_at, items, 5, None, None)
        self.same(need_item(items, 1, "x"), None)
        self.fails(BadText(0, 0), need_item, items, 0, "x")
        self.fails(BadText(0, 3), need_item, items, 3, "x")
        self.same(need_end(items, 3), None)
        self.fails(BadText(0, 2), need_end, items, 2)


if __name__ == "__main__":
    unittest.main()
