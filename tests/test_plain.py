import itertools
import unittest

from dryholds.plain import as_tuple, as_tuples, ascending_tuples, is_just
from tests.helpers import Case


class Plain(Case):
    def test_just_the_same(self):
        for thing in (0, 1, -3, "port", (), (1, "port"), ((1, (2, "x")), ())):
            self.same(is_just(thing, thing), True)
        for thing, wanted in ((True, 1), (False, 0), (1.0, 1), ("1", 1), (1, "1"), (None, 0), ((True,), (1,)),
                              ([1], (1,)), ((1,), (1, 2)), ((1, 2), (1,)), (1, (1,)), ((1,), 1), ("ab", ("a", "b")),
                              (2, 1), ("port", "ports"), (0, "port"), (("port",), ("mark",)),
                              (("port", 0), ("port", 1)), (((1, True),), ((1, 1),))):
            self.same(is_just(thing, wanted), False)

    def test_tuples(self):
        self.same(as_tuples([1, [2, (3, [])], "ab", None]), (1, (2, (3, ())), "ab", None))
        self.same(as_tuples({"a": [1]}), {"a": [1]})
        self.same(as_tuples(7), 7)

    def test_a_tuple_of_what_stays_as_it_is(self):
        self.same(as_tuple([1, [2, (3, [])], "ab"]), (1, [2, (3, [])], "ab"))
        for thing in ((1, [2]), "ab", None, 7, {"a": [1]}):
            self.assertIs(as_tuple(thing), thing)

    def test_ascending_tuples(self):
        self.same([ascending_tuples(many) for many in (0, 1, 2)], [[()], [(), (0,)], [(), (0,), (1,), (0, 1)]])
        for many in range(7):
            wanted = [row for size in range(many + 1) for row in itertools.combinations(range(many), size)]
            self.same(ascending_tuples(many), wanted)


if __name__ == "__main__":
    unittest.main()
