"""Places and what is between two of them."""

import unittest

from sheethands.place import between, first_place, places_between

ME = (3, 64)


def by_me(first, second):
    return between(first, second, *ME)


class Between(unittest.TestCase):
    def test_first_places(self):
        self.assertEqual(first_place(0), ((0, 0, 0),))
        self.assertEqual(first_place(7), ((7, 0, 7),))

    def test_none_on_either_side(self):
        self.assertEqual(by_me((), ()), ((0, 3, 64),))

    def test_none_behind(self):
        self.assertEqual(by_me(((4, 0, 4),), ()), ((5, 3, 64),))
        self.assertEqual(by_me(((4, 0, 4), (9, 1, 64)), ()), ((5, 3, 64),))

    def test_none_before(self):
        self.assertEqual(by_me((), ((0, 0, 0),)), ((-1, 3, 64),))
        self.assertEqual(by_me((), ((-5, 1, 64), (2, 1, 65))), ((-6, 3, 64),))

    def test_room_for_one_step(self):
        self.assertEqual(by_me(((0, 0, 0),), ((2, 0, 2),)), ((1, 3, 64),))
        self.assertEqual(by_me(((0, 0, 0), (7, 1, 64)), ((9, 0, 9),)), ((1, 3, 64),))

    def test_no_room_and_other_steps(self):
        self.assertEqual(by_me(((0, 0, 0),), ((1, 0, 1),)), ((0, 0, 0), (0, 3, 64)))
        self.assertEqual(by_me(((0, 0, 0), (4, 1, 64)), ((1, 0, 1), (0, 1, 65))), ((0, 0, 0), (5, 3, 64)))

    def test_same_d_of_other_hands(self):
        self.assertEqual(by_me(((1, 1, 64),), ((1, 2, 64),)), ((1, 1, 64), (0, 3, 64)))
        self.assertEqual(by_me(((1, 1, 64),), ((1, 1, 65), (-9, 1, 70))), ((1, 1, 64), (0, 3, 64)))

    def test_same_first_step(self):
        start = (0, 0, 0)
        self.assertEqual(by_me((start,), (start, (0, 1, 64))), (start, (-1, 3, 64)))
        self.assertEqual(by_me((start, (0, 1, 64)), (start, (2, 1, 66))), (start, (1, 3, 64)))
        self.assertEqual(by_me((start, (0, 1, 64)), (start, (1, 1, 65))), (start, (0, 1, 64), (0, 3, 64)))

    def test_in_order(self):
        self.assertEqual(places_between((), (), 2, 128, 3), [((0, 2, 128),), ((1, 2, 129),), ((2, 2, 130),)])
        self.assertEqual(
            places_between(((0, 0, 0),), ((1, 0, 1),), 2, 128, 3),
            [((0, 0, 0), (0, 2, 128)), ((0, 0, 0), (1, 2, 129)), ((0, 0, 0), (2, 2, 130))])
        self.assertEqual(
            places_between(((0, 0, 0),), ((3, 0, 3),), 2, 128, 4),
            [((1, 2, 128),), ((2, 2, 129),), ((2, 2, 129), (0, 2, 130)), ((2, 2, 129), (1, 2, 131))])
        # With none before only the first goes by the second's d less 1.
        self.assertEqual(
            places_between((), ((0, 0, 0),), 2, 128, 3),
            [((-1, 2, 128),), ((-1, 2, 128), (0, 2, 129)), ((-1, 2, 128), (1, 2, 130))])

    def test_always_between(self):
        lower = first_place(0)
        upper = first_place(1)
        for number in range(64, 2064):
            place = by_me(lower, upper)
            self.assertTrue(lower < place < upper)
            if number % 3:
                lower = between(lower, upper, 1, number)
            else:
                upper = between(lower, upper, 1, number)

    def test_deeper_than_python_nests(self):
        lower = ((0, 1, 64),) * 5000
        place = by_me(lower, lower + ((0, 1, 64),))
        self.assertEqual(place, lower + ((-1, 3, 64),))
