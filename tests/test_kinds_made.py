import unittest

from kindstocome.hierarchies import Kinds
from samples import any_values, example, hierarchies, place_of, subsets

PROPERTIES = ("elders", "closed", "hollow", "several")

RIGHT = [
    (((),), (), (), False),
    (((),), (), (), True),
    (((),), (0,), (0,), True),
    (((), (), (), (), (), ()), (), (), False),
    (((), (), (), (), (), ()), (0, 1, 2, 3, 4, 5), (0, 1, 2, 3, 4, 5), True),
    (((), (0,), (1,), (2,), (3,), (4,)), (5,), (0, 2, 4), False),
    (((), (0,), (0, 1), (0, 1, 2), (0, 1, 2, 3), (0, 1, 2, 3, 4)), (0, 5), (), True),
    (((), (0,), (0,), (1, 2), (0,)), (4,), (0,), True),
    (((), (), (0, 1)), (), (2,), True),
    (((), (), (1,)), (2,), (), False),
]


def told(kinds):
    return tuple(getattr(kinds, name) for name in PROPERTIES)


class TestMadeRightly(unittest.TestCase):
    def test_properties_are_what_was_passed(self):
        for parts in RIGHT:
            self.assertEqual(told(Kinds(*parts)), parts)

    def test_several_is_a_bool(self):
        for parts in RIGHT:
            self.assertIs(Kinds(*parts).several, parts[3])

    def test_by_name(self):
        for parts in RIGHT:
            self.assertEqual(told(Kinds(**dict(zip(PROPERTIES, parts)))), parts)
            several, hollow, closed, elders = reversed(parts)
            self.assertEqual(told(Kinds(several=several, hollow=hollow, closed=closed, elders=elders)), parts)

    def test_all_small_ones(self):
        for many in (1, 2, 3):
            for elders in hierarchies(many):
                for closed in subsets(range(many)):
                    for hollow in subsets(range(many)):
                        kinds = Kinds(elders, closed, hollow, True)
                        self.assertEqual(told(kinds), (elders, closed, hollow, True))

    def test_all_with_one_elder(self):
        for many in (1, 2, 3, 4):
            for elders in hierarchies(many):
                if max(len(own) for own in elders) <= 1:
                    self.assertEqual(Kinds(elders, (), (), False).elders, elders)
                else:
                    first = [len(own) > 1 for own in elders].index(True)
                    self.assertEqual(place_of(self, elders, (), (), False), first)

    def test_properties_can_only_be_read(self):
        for name in PROPERTIES:
            kinds = example()
            with self.assertRaises(AttributeError):
                setattr(kinds, name, getattr(kinds, name))
            with self.assertRaises(AttributeError):
                delattr(kinds, name)
            self.assertEqual(told(kinds), told(example()))


def right_elders(elders, several):
    """The first index of elders that is not so, by the words of the document one after the other."""
    for at, own in enumerate(elders):
        right = type(own) is tuple and all(type(elder) is int and elder in range(at) for elder in own)
        if not right or list(own) != sorted(set(own)) or (several is False and len(own) > 1):
            return at
    return None


def right_kinds(value, many):
    right = type(value) is tuple and all(type(kind) is int and kind in range(many) for kind in value)
    return right and list(value) == sorted(set(value))


def expected(elders, closed, hollow, several):
    """The place that the document tells, None if the parts are right."""
    if type(elders) is not tuple or len(elders) not in range(1, 7):
        return "elders"
    if right_elders(elders, several) is not None:
        return right_elders(elders, several)
    if not right_kinds(closed, len(elders)):
        return "closed"
    if not right_kinds(hollow, len(elders)):
        return "hollow"
    return "several" if type(several) is not bool else None


class TestMadeWrongly(unittest.TestCase):
    def refused(self, place, *parts):
        ahead = repr(parts)
        got = place_of(self, *parts)
        self.assertEqual((got, type(got)), (place, type(place)), parts)
        self.assertEqual(repr(parts), ahead)

    def test_no_tuple_of_elders(self):
        for elders in (None, True, 0, 1, "", "()", [], [()], [(), (0,)], {}, {0: ()}, example()):
            self.refused("elders", elders, (), (), True)

    def test_how_many_kinds(self):
        self.refused("elders", (), (), (), True)
        self.refused("elders", ((),) * 7, (), (), True)
        self.refused("elders", ((),) * 3000, (), (), False)

    def test_an_item_of_elders_that_is_no_tuple(self):
        for own in ([], [0], None, 0, 1, True, False, "", "0", {}, {0: 1}, example()):
            self.refused(0, (own,), (), (), True)
            self.refused(1, ((), own), (), (), True)
            self.refused(2, ((), (0,), own, own), (), (), False)

    def test_an_elder_that_is_no_lower_kind(self):
        for own in ((0,), (1,), (-1,), (5,), (10 ** 39,), (-(10 ** 39),)):
            self.refused(0, (own, ()), (), (), True)
        for own in ((1,), (2,), (-1,), (0, 1), (-1, 0), (6,)):
            self.refused(1, ((), own, ()), (), (), True)
        self.refused(2, ((), (0,), (1, 3), (2,)), (), (), True)

    def test_elders_not_ascending_or_twice(self):
        for own in ((1, 0), (0, 0), (1, 1), (0, 2, 1), (0, 1, 1), (2, 0, 1)):
            self.refused(3, ((), (), (), own), (), (), True)

    def test_an_elder_that_is_no_integer(self):
        for wrong in (True, False, None, "0", "", (), (0,), [], [0], {}, example()):
            self.refused(2, ((), (), (wrong,)), (), (), True)
            self.refused(2, ((), (), (0, wrong)), (), (), True)
            self.refused(2, ((), (), (wrong, 1)), (), (), True)

    def test_two_elders_with_one_allowed(self):
        self.refused(2, ((), (), (0, 1)), (), (), False)
        self.refused(2, ((), (0,), (0, 1), (0, 1, 2)), (9,), (9,), False)

    def test_two_elders_with_several_that_is_no_bool(self):
        for several in (0, 1, None, "", "False", (), (False,), [], [False], {}, 2, -1, example()):
            self.refused("several", ((), (), (0, 1)), (), (), several)
            self.refused("several", ((), (), (1,)), (), (), several)
            self.refused(2, ((), (), (1, 0)), (), (), several)
            self.refused("closed", ((), (), (0, 1)), (3,), (), several)

    def test_closed_and_hollow(self):
        wrong = [
            (3,), (-1,), (0, 3), (-1, 0), (1, 0), (0, 0), (0, 1, 1), (0, 2, 1), (True,), (False,), (0, True),
            (False, 1), (None,), ("0",), ((0,),), ([],), [], [0], [0, 1], None, 0, 1, True, False, "", "0", {}, {0: 1},
            (example(),), example(), (10 ** 39,),
        ]
        for value in wrong:
            self.refused("closed", ((), (0,), (0,)), value, (), True)
            self.refused("hollow", ((), (0,), (0,)), (), value, True)
            self.refused("closed", ((), (0,), (0,)), value, value, value)
            self.refused("hollow", ((), (0,), (0,)), (2,), value, value)

    def test_several(self):
        for several in (0, 1, None, 2, "True", "", (), (True,), [], [True], {}, example()):
            self.refused("several", ((),), (), (), several)
            self.refused("several", ((), (0,)), (1,), (0,), several)

    def test_the_first_of_several_places(self):
        self.refused("elders", [(1,)], [0], [0], 1)
        self.refused("elders", (), (0,), (0,), None)
        self.refused("elders", ((0,),) * 7, [], [], 0)
        self.refused(0, ((0,), (1,), (2,)), [], [], 0)
        self.refused(1, ((), [0], (2,)), (7,), (7,), None)
        self.refused(2, ((), (0,), (2,), (3,)), [], [], False)
        self.refused("closed", ((), (0,)), [], [], 1)
        self.refused("hollow", ((), (0,)), (), [], 1)
        self.refused("several", ((), (0,)), (), (), 1)

    def test_by_name(self):
        self.assertEqual(place_of(self, several=1, hollow=(), closed=(), elders=((),)), "several")
        self.assertEqual(place_of(self, hollow=[], several=1, elders=((),), closed=()), "hollow")

    def test_any_value_in_each_place(self):
        for value in any_values():
            for parts in self.with_value_in_each_place(value):
                place = expected(*parts)
                if place is None:
                    self.assertEqual(told(Kinds(*parts)), parts)
                else:
                    self.refused(place, *parts)

    def with_value_in_each_place(self, value):
        elders = ((), (0,), (0, 1))
        return [
            (value, (), (), True), (value, (), (), False), (elders, value, (), True), (elders, (), value, True),
            (elders, (), (), value), (((), (), value), (), (), True), (((), (), value), (), (), False),
            (((), (), (value,)), (), (), True), (((), (), (0, value)), (), (), True), (elders, (value,), (), True),
            (elders, (), (0, value), True), (value, value, value, value), (((), value), value, value, value),
        ]

    def test_lists_that_are_passed_stay_as_they_are(self):
        elders, closed = [(), [0]], [1, 0, 0]
        self.refused("elders", elders, closed, closed, closed)
        self.refused("closed", ((), (0,)), closed, closed, closed)
        self.assertEqual((elders, closed), ([(), [0]], [1, 0, 0]))


if __name__ == "__main__":
    unittest.main()
