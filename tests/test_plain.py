import unittest

from dryholds.plain import as_tuples, is_just
from tests.helpers import Case


class Plain(Case):
    def test_just_the_same(self):
        for thing in (0, 1, -3, "port", (), (1, "port"), ((1, (2, "x")), ())):
            self.same(is_just(thing, thing), True)
        for thing, wanted in ((True, 1), (False, 0), (1.0, 1), ("1", 1), (1, "1"), (None, 0), ((True,), (1,)),
                              ([1], (1,)), ((1,), (1, 2)), ((1, 2), (1,)), (1, (1,)), ((1,), 1), ("ab", ("a", "b")),
                              (2, 1), ("port", "ports"), (0, "port"), (("port",), ("mark",)),
                              (("port", 0), ("port", 1)), (((1, True),), ((1, 1),))):
            self.same(is_just(thing, wanted), False)

    def test_tuples(self):
        self.same(as_tuples([1, [2, (3, [])], "ab", None]), (1, (2, (3, ())), "ab", None))
        self.same(as_tuples({"a": [1]}), {"a": [1]})
        self.same(as_tuples(7), 7)


if __name__ == "__main__":
    unittest.main()
