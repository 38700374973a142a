"""Point 8: disks."""

import unittest

from stillcopy.disk import Disk
from stillcopy.errors import BadBlock, Stopped
from tests.helpers import disk_of, stopped_at


def blocks_with(**found):
    """35 blocks, None but for these: b3="x" for block 3."""
    blocks = [None] * 35
    for name, what in found.items():
        blocks[int(name[1:])] = what
    return blocks


class Blocks(unittest.TestCase):
    def test_new_disk(self):
        disk = Disk()
        self.assertEqual(disk.settled(), [None] * 35)
        self.assertEqual([disk.read(block) for block in range(35)], [None] * 35)

    def test_blocks_that_there_are(self):
        disk = Disk()
        for block in (0, 34):
            self.assertIsNone(disk.write(block, "x"))
            self.assertEqual(disk.read(block), "x")

    def test_blocks_that_there_are_not(self):
        disk = Disk()
        for block in (-1, 35, 36, 10 ** 19, True, False):
            self.assertRaises(BadBlock, disk.write, block, 1)
            self.assertRaises(BadBlock, disk.read, block)
        self.assertEqual(disk.settled(), [None] * 35)
        disk.settle()
        self.assertEqual(disk.settled(), [None] * 35)

    def test_what_may_be_put(self):
        disk = Disk()
        for what in (0, -7, 10 ** 19, "", "a long text" * 100, True, False, None, (), ((),), (1, ("a", (None, True)))):
            disk.write(3, what)
            self.assertEqual(disk.read(3), what)
            self.assertIs(type(disk.read(3)), type(what))

    def test_weights(self):
        disk = Disk()
        deep = 1
        for depth in range(5000):
            deep = (deep,)
        most = [(0,) * 40, ((None,) * 20, ("a" * 99,) * 20), (((True,) * 39,), ((), (5,))), ((),) * 100 + (1,) * 40, deep]
        for what in most:
            disk.write(0, what)
            self.assertIs(disk.read(0), what)
            self.assertRaises(BadBlock, disk.write, 0, (what,) + (1,) * 40)
            self.assertIs(disk.read(0), what)
        for what in [(0,) * 41, ((None,) * 20, ("",) * 21), ((((False,) * 41,),),), (1, (2,) * 39, 3), ((),) + (1,) * 41]:
            self.assertRaises(BadBlock, disk.write, 0, what)

    def test_read_tells_the_last_write(self):
        disk = Disk()
        disk.write(1, "a")
        disk.write(2, "b")
        disk.write(1, "c")
        self.assertEqual([disk.read(block) for block in range(4)], [None, "c", "b", None])
        disk.settle()
        self.assertEqual(disk.read(1), "c")
        disk.write(1, None)
        self.assertIsNone(disk.read(1))
        disk.again()
        self.assertEqual(disk.read(1), "c")

    def test_settle(self):
        disk = Disk()
        disk.write(1, "a")
        disk.write(1, "b")
        disk.write(34, 7)
        self.assertEqual(disk.settled(), [None] * 35)
        self.assertIsNone(disk.settle())
        self.assertEqual(disk.settled(), blocks_with(b1="b", b34=7))
        disk.write(1, "d")
        self.assertEqual(disk.settled(), blocks_with(b1="b", b34=7))

    def test_settled_is_told_new(self):
        disk = Disk()
        told = disk.settled()
        told[0] = "x"
        told.clear()
        self.assertEqual(disk.settled(), [None] * 35)
        self.assertEqual(disk.settled(), disk.settled())

    def test_two_disks(self):
        one, other = Disk(), Disk()
        one.write(0, 1)
        one.settle()
        one.stop([])
        self.assertIsNone(other.read(0))
        other.write(0, 2)
        self.assertEqual(one.settled()[0], 1)


class Stops(unittest.TestCase):
    def check_stopped(self, disk):
        self.assertRaises(Stopped, disk.write, 0, 1)
        self.assertRaises(Stopped, disk.settle)
        self.assertRaises(Stopped, disk.read, 0)
        for block in (-1, 35):
            self.assertRaises(BadBlock, disk.write, block, 1)
            self.assertRaises(BadBlock, disk.read, block)
        self.assertRaises(BadBlock, disk.write, 0, (1,) * 41)

    def test_arm_at_each_count(self):
        deeds = [(0, "a"), (1, "b"), None, (0, "c"), (2, "d"), (0, "e"), None, (3, "f")]
        for count in range(len(deeds) + 1):
            disk = Disk()
            self.assertIsNone(disk.arm(count, []))
            sure, unsure = {}, {}
            for at, deed in enumerate(deeds):
                call = disk.settle if deed is None else lambda: disk.write(*deed)
                self.assertEqual(stopped_at(call), at >= count, (count, at))
                if at < count and deed is None:
                    sure.update(unsure)
                    unsure = {}
                elif at < count:
                    unsure[deed[0]] = deed[1]
            if count < len(deeds):
                self.check_stopped(disk)
                disk.again()
            expected = [sure.get(block) for block in range(35)]
            self.assertEqual(disk.settled(), expected)
            if count < len(deeds):
                self.assertEqual([disk.read(block) for block in range(35)], expected)

    def test_picks(self):
        cases = [([], "_.."), ([True], "a.."), ([False, True], "_b."), ([True, True, True], "cb."),
                 ([False, False, True, True], "cd."), ([True] * 9, "ed."), ([True, False, False, False, False], "a.."),
                 ([False] * 9, "_.."), ([False, False, False, False, True], "e..")]
        for how in ("arm", "stop"):
            for picks, expected in cases:
                disk = disk_of(["_", ".", "."])
                handed = list(picks)
                if how == "arm":
                    disk.arm(5, handed)
                    handed.append(True)
                    handed[:] = [not pick for pick in handed]
                for block, what in [(0, "a"), (1, "b"), (0, "c"), (1, "d"), (0, "e")]:
                    disk.write(block, what)
                if how == "arm":
                    self.assertRaises(Stopped, disk.write, 2, "f")
                else:
                    self.assertIsNone(disk.stop(handed))
                    self.assertEqual(handed, picks)
                self.assertEqual("".join(disk.settled()[:3]), expected, (how, picks))
                disk.again()
                self.assertEqual("".join(disk.settled()[:3]), expected, (how, picks))
                self.assertEqual("".join([disk.read(block) for block in range(3)]), expected, (how, picks))

    def test_stopped_settle_settles_the_picks_alone(self):
        disk = Disk()
        disk.write(4, "a")
        disk.write(5, "b")
        disk.arm(0, [False, True])
        self.assertRaises(Stopped, disk.settle)
        self.check_stopped(disk)
        disk.again()
        self.assertEqual(disk.settled(), blocks_with(b5="b"))
        disk.settle()
        self.assertEqual(disk.settled(), blocks_with(b5="b"))

    def test_settled_writes_need_no_pick(self):
        disk = Disk()
        disk.arm(3, [False, True])
        disk.write(0, "a")
        disk.settle()
        disk.write(0, "b")
        self.assertRaises(Stopped, disk.write, 1, "c")
        self.assertEqual(disk.settled(), blocks_with(b0="a"))

    def test_refused_writes_and_reads_are_no_deeds(self):
        disk = Disk()
        disk.arm(1, [])
        self.assertRaises(BadBlock, disk.write, 35, 1)
        self.assertRaises(BadBlock, disk.write, 0, (1,) * 41)
        disk.read(0)
        disk.settled()
        disk.write(0, 1)
        self.assertRaises(BadBlock, disk.write, 35, 1)
        self.assertRaises(Stopped, disk.write, 0, 1)

    def test_newest_arm_counts(self):
        disk = Disk()
        disk.arm(0, [])
        disk.arm(2, [True])
        disk.write(0, "a")
        disk.write(1, "b")
        self.assertRaises(Stopped, disk.settle)
        self.assertEqual(disk.settled(), blocks_with(b0="a"))
        disk = Disk()
        disk.arm(9, [True])
        disk.write(0, "a")
        disk.arm(0, [])
        self.assertRaises(Stopped, disk.settle)
        self.assertEqual(disk.settled(), [None] * 35)

    def test_arm_and_stop_of_a_stopped_disk(self):
        disk = Disk()
        disk.write(0, "a")
        disk.stop([])
        self.assertIsNone(disk.stop([True]))
        self.assertIsNone(disk.arm(0, [True]))
        self.check_stopped(disk)
        self.assertEqual(disk.settled(), [None] * 35)
        self.assertIsNone(disk.again())
        self.assertEqual(disk.settled(), [None] * 35)
        disk.write(0, "b")
        disk.settle()
        self.assertEqual(disk.settled(), blocks_with(b0="b"))

    def test_nothing_is_armed_behind_again(self):
        for stopped in (False, True):
            disk = Disk()
            disk.arm(1, [True])
            if stopped:
                disk.stop([])
            disk.again()
            for turn in range(9):
                disk.write(turn, turn)
                disk.settle()
            self.assertEqual(disk.settled()[:9], list(range(9)))

    def test_again_of_a_disk_that_runs(self):
        disk = disk_of(["a", "b"])
        disk.write(0, "c")
        disk.write(2, "d")
        self.assertIsNone(disk.again())
        self.assertEqual([disk.read(0), disk.read(1), disk.read(2)], ["a", "b", None])
        disk.settle()
        self.assertEqual(disk.settled(), blocks_with(b0="a", b1="b"))

    def test_stop_when_armed_takes_its_own_picks(self):
        disk = Disk()
        disk.arm(5, [True, True])
        disk.write(0, "a")
        disk.write(1, "b")
        disk.stop([False, True])
        self.assertEqual(disk.settled(), blocks_with(b1="b"))

    def test_stops_again_and_again(self):
        disk = Disk()
        for turn in range(50):
            disk.arm(turn % 3, [turn % 2 == 0])
            self.assertTrue(any([stopped_at(lambda: disk.write(0, turn)) for at in range(3)]))
            self.check_stopped(disk)
            disk.again()
        self.assertEqual(disk.settled(), blocks_with(b0=46))


if __name__ == "__main__":
    unittest.main()
