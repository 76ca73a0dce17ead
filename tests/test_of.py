import unittest

from tests.lines import (
    TOP, ask, ask_behind, day_of, did, flew, flights, go, in_plane, limits, of, part, put, start, start_with, take)

DAY = day_of(0)
LATE = day_of(1)


class WhatAPartIs(unittest.TestCase):
    def test_its_kind(self):
        coming = [part(kind, DAY) for kind in (15, 0, 7)]
        self.assertEqual(
            ask(start(16), *coming, of(0), of(1), of(2))[4:],
            [[0, 15, 255, 0, 0], [0, 0, 255, 0, 0], [0, 7, 255, 0, 0]])

    def test_its_aeroplane(self):
        for plane in (0, 1, 15):
            with self.subTest(plane=plane):
                self.assertEqual(
                    ask(start(1), part(0, DAY), of(0), put(0, plane), of(0), take(0), of(0)),
                    [0, 0, [0, 0, 255, 0, 0], 0, [0, 0, plane, 0, 0], 0, [0, 0, 255, 0, 0]])

    def test_what_it_has_flown_in_all_its_aeroplanes(self):
        before = in_plane(3, DAY, limits()) + flights(3, 0, 2, DAY, 60) + [take(0, 2)] + flights(3, 2, 1, DAY, 500)
        self.assertEqual(
            ask_behind(before, of(0), put(0, 0), *flights(0, 0, 1, DAY, 7), of(0), take(0, 1), put(0, 3, 3),
                       *flights(3, 3, 1, DAY, 30), of(0)),
            [[0, 0, 255, 120, 2], 0, 0, 1, [0, 0, 0, 127, 3], 0, 0, 3, 1, [0, 0, 3, 157, 4]])

    def test_tasks_that_are_done_are_no_matter(self):
        before = in_plane(3, DAY, limits()) + flights(3, 0, 2, DAY, 60)
        self.assertEqual(
            ask_behind(before, did(0, 0, LATE), did(0, 1, LATE), did(0, 2, LATE), did(0, 3, LATE), of(0)),
            [0, 0, 0, 0, [0, 0, 3, 120, 2]])

    def test_while_its_aeroplane_is_away(self):
        self.assertEqual(
            ask_behind(in_plane(3, DAY, limits()), go(3, DAY, 60), of(0), flew(3, 0, 90), of(0)),
            [0, [0, 0, 3, 0, 0], 2, [0, 0, 3, 90, 1]])

    def test_the_most_that_can_be_flown(self):
        calls = in_plane(3, DAY, limits())
        for number in range(498):
            calls += [go(3, DAY, 1), flew(3, number, 65535)]
        self.assertEqual(ask_behind(calls, of(0)), [[0, 0, 3, 498 * 65535, 498]])

    def test_no_such_part(self):
        self.assertEqual(ask(start(1), of(0), of(TOP), part(0, DAY), of(0), of(1), of(255), of(256), of(TOP)),
                         [0, -2, -2, 0, [0, 0, 255, 0, 0], -2, -2, -2, -2])

    def test_last_part(self):
        told = ask(start_with(limits()), *[part(0, DAY)] * 257, of(255), of(256))
        self.assertEqual(told[256:], [255, -28, [0, 0, 255, 0, 0], -2])

    def test_it_changes_nothing(self):
        before = in_plane(3, DAY, limits())
        self.assertEqual(ask_behind(before, of(0), of(0), of(1), put(0, 3), take(0), of(0)),
                         [[0, 0, 3, 0, 0], [0, 0, 3, 0, 0], -2, -16, 0, [0, 0, 255, 0, 0]])


if __name__ == "__main__":
    unittest.main()
