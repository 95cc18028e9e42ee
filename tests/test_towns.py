import unittest

from bikestands.errors import InvalidRoads, InvalidSlots, InvalidStands
from bikestands.towns import Town
from tests.cases import Case
from tests.samples import (
    ROADS, STANDS, TEXT, EqualToAll, NeverAsked, make_town, no_names, no_numbers_in, no_strings, no_tuples,
)

FIVE = (("a", 1), ("b", 2), ("c", 3), ("d", 4), ("e", 40))
TWELVE = tuple([(start, end, 1) for start in "abc" for end in "abcd"])


class Made(unittest.TestCase):
    def test_by_position(self):
        town = Town(2, STANDS, ROADS)
        self.assertEqual((town.slots, town.stands, town.roads), (2, STANDS, ROADS))
        self.assertEqual(town.names, ("hill", "port"))

    def test_by_name(self):
        town = Town(roads=ROADS, stands=STANDS, slots=2)
        self.assertEqual((town.slots, town.stands, town.roads), (2, STANDS, ROADS))
        self.assertEqual(town, make_town())

    def test_without_roads(self):
        for town in (Town(2, STANDS), Town(slots=2, stands=STANDS), Town(2, STANDS, ()), Town(2, STANDS, roads=())):
            self.assertEqual(town.roads, ())
            self.assertEqual(town, Town(2, STANDS))

    def test_properties_are_what_was_passed(self):
        stands, roads = (("b", 1), ("a", 2)), (("b", "a", 3), ("a", "a", 1), ("a", "b", 2))
        town = Town(7, stands, roads)
        self.assertIs(town.stands, stands)
        self.assertIs(town.roads, roads)
        self.assertEqual(town.names, ("b", "a"))
        self.assertIs(town.slots.__class__, int)
        self.assertIs(town.names.__class__, tuple)

    def test_properties_cannot_be_set(self):
        town = make_town()
        for name in ("slots", "stands", "roads", "names"):
            with self.subTest(name=name), self.assertRaises(AttributeError):
                setattr(town, name, getattr(town, name))
        self.assertEqual(town, make_town())

    def test_all_slots(self):
        for slots in range(1, 9):
            self.assertEqual(Town(slots, STANDS).slots, slots)

    def test_all_sizes(self):
        for size in range(1, 41):
            self.assertEqual(Town(1, (("a", size),)).stands, (("a", size),))

    def test_one_to_five_stands(self):
        for many in range(1, 6):
            self.assertEqual(Town(1, FIVE[:many]).names, tuple("abcde"[:many]))

    def test_names_of_one_to_eight_letters(self):
        for name in ("a", "z", "az", "abcdefgh", "zzzzzzzz", "slots", "stand", "road", "from", "to", "is", "all"):
            self.assertEqual(Town(1, ((name, 1),), ((name, name, 1),)).names, (name,))

    def test_none_to_twelve_roads(self):
        for many in range(13):
            self.assertEqual(Town(1, FIVE, TWELVE[:many]).roads, TWELVE[:many])

    def test_times_and_roads_that_lead_back(self):
        for time in (1, 2, 3):
            roads = (("hill", "hill", time), ("hill", "port", time), ("port", "hill", time))
            self.assertEqual(Town(1, STANDS, roads).roads, roads)


class Objects(unittest.TestCase):
    def test_text(self):
        self.assertEqual(str(make_town()), TEXT)
        self.assertEqual(str(Town(1, (("a", 1),))), "slots 1\nstand a 1")
        roads = (("b", "a", 3), ("b", "b", 1))
        self.assertEqual(
            str(Town(8, (("b", 40), ("a", 10)), roads)), "slots 8\nstand b 40\nstand a 10\nroad b a 3\nroad b b 1"
        )

    def test_repr(self):
        for many in range(1, 6):
            self.assertEqual(repr(Town(1, FIVE[:many])), f"Town of {many} stands")
        self.assertEqual(repr(make_town()), "Town of 2 stands")

    def test_truth(self):
        self.assertIs(bool(make_town()), True)
        self.assertIs(bool(Town(1, (("a", 1),))), True)

    def test_equal_towns(self):
        one = make_town()
        for other in (one, make_town(), Town(2, tuple(list(STANDS)), tuple(list(ROADS))), Town.read(TEXT)):
            self.assertIs(one == other, True)
            self.assertIs(other == one, True)
            self.assertIs(one != other, False)

    def test_other_towns(self):
        towns = [
            make_town(), Town(3, STANDS, ROADS), Town(2, STANDS), Town(2, STANDS, ROADS[:1]),
            Town(2, STANDS, ROADS[::-1]), Town(2, STANDS[::-1], ROADS), Town(2, STANDS[:1]),
            Town(2, (("hill", 4), ("port", 4)), ROADS),
            Town(2, STANDS, (("hill", "port", 2), ("port", "hill", 2))), Town(2, (("hill", 4), ("porta", 3))),
            Town(2, STANDS, (("hill", "port", 1), ("port", "port", 2))), Town(2, (*STANDS, ("a", 1)), ROADS),
        ]
        for row, one in enumerate(towns):
            for column, other in enumerate(towns):
                with self.subTest(one=str(one), other=str(other)):
                    self.assertIs(one == other, row == column)
                    self.assertIs(one != other, row != column)

    def test_values_of_other_classes_are_not_equal(self):
        town = make_town()
        others = [value for value in no_tuples() if not isinstance(value, Town)]
        for other in [*others, TEXT, (2, STANDS, ROADS), [town], (town,), EqualToAll(), NeverAsked()]:
            self.assertIs(town == other, False)
            self.assertIs(town != other, True)
        self.assertIs(town in (None, TEXT, town.names), False)
        self.assertIs(town in (None, make_town()), True)


class Wrong(Case):
    def assert_error(self, kind, attributes, *arguments, **named):
        self.assert_raised(kind, attributes, Town, *arguments, **named)

    def assert_stands(self, index, stands):
        self.assert_error(InvalidStands, {"index": index}, 1, stands)
        self.assert_error(InvalidStands, {"index": index}, stands=stands, slots=1, roads=ROADS)

    def assert_roads(self, index, roads, stands=STANDS):
        self.assert_error(InvalidRoads, {"index": index}, 1, stands, roads)
        self.assert_error(InvalidRoads, {"index": index}, roads=roads, stands=stands, slots=1)

    def test_slots(self):
        for slots in no_numbers_in(1, 8):
            self.assert_error(InvalidSlots, {"given": slots}, slots, STANDS, ROADS)
            self.assert_error(InvalidSlots, {"given": slots}, slots=slots, stands=STANDS)

    def test_no_tuple_of_stands(self):
        for stands in [*no_tuples(), (), list(STANDS), dict(STANDS), str(STANDS)]:
            self.assert_stands(None, stands)

    def test_a_stand_that_is_no_pair(self):
        for stand in [*no_tuples(), (), ("a",), ("a", 1, 1), ("a", 1, "b"), ["a", 1], (("a", 1),), (1, "a")]:
            self.assert_stands(0, (stand,))
            self.assert_stands(1, (("b", 1), stand))
            self.assert_stands(1, (("b", 1), stand, None))

    def test_a_stand_with_another_name(self):
        for name in no_names():
            self.assert_stands(0, ((name, 1),))
            self.assert_stands(2, (("hill", 1), ("port", 2), (name, 1), ("a", 1)))

    def test_a_stand_with_another_size(self):
        for size in no_numbers_in(1, 40):
            self.assert_stands(0, (("a", size), ("b", 1)))
            self.assert_stands(1, (("b", 1), ("a", size)))

    def test_a_name_twice(self):
        self.assert_stands(1, (("a", 1), ("a", 1)))
        self.assert_stands(1, (("a", 1), ("a", 2), ("a", 3)))
        self.assert_stands(2, (("a", 1), ("b", 1), ("a", 3), ("b", 1)))
        self.assert_stands(4, (*FIVE[:4], ("a", 1)))

    def test_more_than_five_stands(self):
        self.assert_stands(5, (*FIVE, ("f", 1)))
        self.assert_stands(5, (*FIVE, ("f", 1), ("g", 1)))
        self.assert_stands(5, (*FIVE, None))
        self.assert_stands(5, (*FIVE, FIVE[0]))
        self.assert_stands(3, (*FIVE[:3], ("d", 41), FIVE[4], ("f", 1)))

    def test_no_tuple_of_roads(self):
        for roads in [*no_tuples(), list(ROADS), str(ROADS)]:
            self.assert_roads(None, roads)

    def test_a_road_that_is_no_triple(self):
        strange = [(), ("hill",), ("hill", "port"), ("hill", "port", 1, 1), ["hill", "port", 2], (1, "hill", "port")]
        for road in [*no_tuples(), *strange]:
            self.assert_roads(0, (road,))
            self.assert_roads(1, (("hill", "port", 1), road, None))

    def test_a_road_from_or_to_no_stand_of_the_town(self):
        for name in [*no_names(), "hil", "hills", "por", "a", "porthill"]:
            self.assert_roads(0, ((name, "port", 1),))
            self.assert_roads(0, (("port", name, 1),))
            self.assert_roads(2, (*ROADS, (name, "port", 1)))
            self.assert_roads(2, (*ROADS, ("port", name, 1), None))

    def test_a_road_with_another_time(self):
        for time in no_numbers_in(1, 3):
            self.assert_roads(0, (("hill", "port", time),))
            self.assert_roads(1, (("hill", "port", 1), ("port", "hill", time)))

    def test_two_roads_alike(self):
        self.assert_roads(1, (("hill", "port", 1), ("hill", "port", 1)))
        self.assert_roads(1, (("hill", "port", 1), ("hill", "port", 2)))
        self.assert_roads(2, (*ROADS, ("port", "hill", 3), ("hill", "port", 1)))
        self.assert_roads(2, (("hill", "hill", 1), ("port", "port", 1), ("hill", "hill", 2)))

    def test_more_than_twelve_roads(self):
        self.assert_roads(12, (*TWELVE, ("e", "e", 1)), FIVE)
        self.assert_roads(12, (*TWELVE, ("e", "e", 1), ("e", "d", 1)), FIVE)
        self.assert_roads(12, (*TWELVE, None), FIVE)
        self.assert_roads(7, (*TWELVE[:7], None, *TWELVE[8:], ("e", "e", 1)), FIVE)

    def test_the_first_argument_that_is_not_valid(self):
        self.assert_error(InvalidSlots, {"given": 0}, 0, (), None)
        self.assert_error(InvalidSlots, {"given": 9}, roads=None, stands=STANDS, slots=9)
        self.assert_error(InvalidStands, {"index": None}, 1, (), None)
        self.assert_error(InvalidStands, {"index": 1}, 8, (("a", 1), ("b", 41)), (None,))

    def test_nothing_that_was_passed_is_changed(self):
        stands, roads = [("a", 1)], [["a", "a", 1]]
        with self.assertRaises(InvalidStands):
            Town(1, stands)
        with self.assertRaises(InvalidRoads):
            Town(1, tuple(stands), tuple(roads))
        self.assertEqual((stands, roads), ([("a", 1)], [["a", "a", 1]]))

    def test_values_that_are_no_strings_are_never_asked(self):
        for value in no_strings():
            self.assert_stands(0, ((value, value),))
            self.assert_roads(0, ((value, value, value),))


if __name__ == "__main__":
    unittest.main()
