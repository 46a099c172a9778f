"""Point 30: disks."""

import copy
import random
import unittest

from websplit.disks import Disk
from websplit.errors import Fell

ROWS = ((0, ("a", 1)), ("front", 7), (5, None), (0, "b"), ("front", ()), (0, ("a", 1)), (3, (None, ("x", -5))))


def write_all(disk, rows=ROWS):
    for place, row in rows:
        disk.write(place, row)
    return disk


def by_places(rows):
    told = {}
    for place, row in rows:
        told.setdefault(place, []).append(row)
    return told


class Written(unittest.TestCase):
    def test_rows_stand_in_their_order_at_their_places(self):
        disk = Disk()
        self.assertEqual((disk.rows(), disk.steps(), disk.is_up()), ({}, 0, True))
        for at, (place, row) in enumerate(ROWS):
            self.assertEqual(disk.rows(), by_places(ROWS[:at]))
            self.assertEqual(disk.steps(), at)
            self.assertIsNone(disk.write(place, row))
            self.assertIs(disk.is_up(), True)
        told = {0: [("a", 1), "b", ("a", 1)], "front": [7, ()], 5: [None], 3: [(None, ("x", -5))]}
        self.assertEqual((disk.rows(), disk.steps()), (told, 7))
        self.assertEqual({type(rows) for rows in disk.rows().values()}, {list})

    def test_every_place(self):
        for place in (0, 1, 2, 3, 4, 5, "front"):
            disk = Disk()
            disk.write(place, "a")
            self.assertEqual(disk.rows(), {place: ["a"]})

    def test_beginning_with_rows(self):
        disk = Disk(rows={0: ["a", "b"], "front": [1]})
        self.assertEqual((disk.rows(), disk.steps()), ({0: ["a", "b"], "front": [1]}, 0))
        disk.write(0, "c")
        disk.write(2, "d")
        self.assertEqual((disk.rows(), disk.steps()), ({0: ["a", "b", "c"], "front": [1], 2: ["d"]}, 2))

    def test_a_place_without_rows_is_not_told(self):
        disk = Disk(rows={0: [], 1: ["a"], "front": []})
        self.assertEqual(disk.rows(), {1: ["a"]})
        disk.write(0, "b")
        self.assertEqual(disk.rows(), {0: ["b"], 1: ["a"]})
        for rows in ({}, {0: []}, None):
            self.assertEqual((Disk(rows=rows).rows(), Disk(rows=rows).steps()), ({}, 0))

    def test_by_place_and_by_name(self):
        disk = Disk(fall=2, rows={})
        self.assertIsNone(disk.write(place=0, row="a"))
        self.assertIsNone(disk.write(0, row="b"))
        with self.assertRaises(Fell):
            disk.write(row="c", place=0)
        self.assertEqual(disk.rows(), {0: ["a", "b"]})
        for handed in (({0: []},), (None, 1)):
            with self.assertRaises(TypeError):
                Disk(*handed)


class Falls(unittest.TestCase):
    def assert_fallen(self, disk, step, rows):
        for place in (0, 5, "front"):
            with self.assertRaises(Fell) as caught:
                disk.write(place, "late")
            self.assertIs(type(caught.exception), Fell)
            self.assertEqual(caught.exception.step, step)
            self.assertEqual((disk.rows(), disk.steps()), (by_places(rows), step))
            self.assertIs(disk.is_up(), False)

    def test_at_each_step(self):
        for fall in range(len(ROWS)):
            disk = Disk(fall=fall)
            write_all(disk, ROWS[:fall])
            self.assertEqual((disk.rows(), disk.steps()), (by_places(ROWS[:fall]), fall))
            self.assertIs(disk.is_up(), True)
            with self.assertRaises(Fell) as caught:
                disk.write(*ROWS[fall])
            self.assertEqual(caught.exception.step, fall)
            self.assert_fallen(disk, fall, ROWS[:fall])

    def test_at_the_first_step(self):
        self.assert_fallen(Disk(fall=0), 0, ())

    def test_beyond_the_last_one_and_never(self):
        for fall in (len(ROWS), len(ROWS) + 1, 1000, None):
            disk = write_all(Disk(fall=fall))
            self.assertEqual((disk.rows(), disk.steps()), (by_places(ROWS), len(ROWS)))
            self.assertIs(disk.is_up(), True)

    def test_the_steps_are_those_of_its_own_life(self):
        first = write_all(Disk())
        disk = Disk(rows=first.rows(), fall=1)
        disk.write(4, "a")
        self.assert_fallen(disk, 1, ROWS + ((4, "a"),))

    def test_one_disk_falls_alone(self):
        one, other = Disk(fall=0), Disk(fall=1)
        self.assert_fallen(one, 0, ())
        other.write(0, "a")
        self.assertIs(other.is_up(), True)

    def test_a_new_disk_of_the_rows_goes_on(self):
        for fall in range(len(ROWS)):
            disk = Disk(fall=fall)
            with self.assertRaises(Fell):
                write_all(disk)
            again = Disk(rows=disk.rows())
            self.assertEqual((again.rows(), again.steps(), again.is_up()), (disk.rows(), 0, True))
            write_all(again, ROWS[fall:])
            self.assertEqual((again.rows(), again.steps()), (by_places(ROWS), len(ROWS) - fall))
            self.assertEqual((disk.rows(), disk.steps(), disk.is_up()), (by_places(ROWS[:fall]), fall, False))

    def test_by_chance(self):
        chance = random.Random(30)
        for _ in range(100):
            begun = [(chance.choice((0, 1, "front")), chance.randrange(9)) for _ in range(chance.randrange(5))]
            rows = [(chance.choice((0, 3, 5, "front")), (chance.randrange(9), "a")) for _ in range(chance.randrange(9))]
            fall = chance.choice((None, 0, 1, 4, 8, 9))
            disk = Disk(rows=by_places(begun), fall=fall)
            done = rows if fall is None else rows[:fall]
            try:
                write_all(disk, rows)
            except Fell as fell:
                self.assertEqual(fell.step, fall)
                self.assertLess(fall, len(rows))
            self.assertEqual((disk.rows(), disk.steps()), (by_places(begun + done), len(done)))
            self.assertIs(disk.is_up(), len(done) == len(rows))


class Copies(unittest.TestCase):
    def test_what_is_handed_in_is_not_changed(self):
        rows = {0: ["a"], 1: [], "front": [("b", 2)]}
        ahead = copy.deepcopy(rows)
        write_all(Disk(rows=rows))
        self.assertEqual(rows, ahead)

    def test_what_is_handed_in_may_change_behind(self):
        rows = {0: ["a"], 1: ["b"]}
        disk = Disk(rows=rows)
        rows[0].append("x")
        rows[1] = []
        rows[2] = ["y"]
        self.assertEqual(disk.rows(), {0: ["a"], 1: ["b"]})

    def test_what_is_told_is_the_askers_own(self):
        disk = Disk(rows={0: ["a"]})
        told = disk.rows()
        told[0].append("x")
        told[1] = ["y"]
        self.assertEqual(disk.rows(), {0: ["a"]})
        told = disk.rows()
        disk.write(0, "b")
        disk.write(1, "c")
        self.assertEqual(told, {0: ["a"]})
        self.assertIsNot(disk.rows()[0], disk.rows()[0])

    def test_a_disk_of_anothers_rows_goes_its_own_way(self):
        one = write_all(Disk())
        other = Disk(rows=one.rows())
        one.write(0, "one")
        other.write(0, "other")
        self.assertEqual((one.rows()[0][-1], other.rows()[0][-1]), ("one", "other"))
        self.assertEqual((len(one.rows()[0]), len(other.rows()[0])), (4, 4))

    def test_two_new_disks_share_nothing(self):
        one, other = Disk(), Disk()
        one.write(0, "a")
        self.assertEqual((other.rows(), other.steps()), ({}, 0))


if __name__ == "__main__":
    unittest.main()
