"""Point 500: the disk, which may crash at any operation."""

import random
import unittest

from kit import stored

from sealchart.disk import Disk
from sealchart.errors import DiskCrashed, DiskError

BAD_NAMES = ["", None, True, False, 0, 1, b"", b"a", [], ["a"], (), ("a",), {}, object()]
BAD_TEXTS = [None, True, 0, 1, b"", b"a", [], ["a"], (), ("a",), {}, object()]


class Running(unittest.TestCase):
    def test_a_new_disk(self):
        disk = Disk()
        self.assertEqual(disk.names(), [])
        self.assertIsNone(disk.read("a"))

    def test_texts_are_kept(self):
        disk = Disk()
        for name, text in [("a", "1"), ("c", ""), ("b", "x" * 1000), ("a b/c.d", "\n"), ("\u00e9", "\u0661")]:
            self.assertIsNone(disk.put(name, text))
            self.assertEqual(disk.read(name), text)
        self.assertEqual(disk.names(), ["a", "a b/c.d", "b", "c", "\u00e9"])

    def test_a_text_is_replaced(self):
        disk = Disk()
        for text in ["1", "2", "", "2", "2"]:
            disk.put("a", text)
            self.assertEqual(stored(disk), {"a": text})

    def test_a_text_is_removed(self):
        disk = Disk()
        disk.put("a", "1")
        disk.put("b", "2")
        self.assertIsNone(disk.remove("a"))
        self.assertIsNone(disk.read("a"))
        self.assertEqual(stored(disk), {"b": "2"})
        with self.assertRaises(DiskError):
            disk.remove("a")
        disk.put("a", "3")
        self.assertEqual(disk.read("a"), "3")

    def test_the_names_are_a_list_of_their_own(self):
        disk = Disk()
        disk.put("a", "1")
        names = disk.names()
        names.append("b")
        self.assertEqual(disk.names(), ["a"])

    def test_wrong_arguments(self):
        disk = Disk()
        disk.put("a", "1")
        for name in BAD_NAMES:
            with self.subTest(repr(name)), self.assertRaises(DiskError):
                disk.put(name, "2")
            with self.assertRaises(DiskError):
                disk.remove(name)
            self.assertIsNone(disk.read(name))
        for text in BAD_TEXTS:
            for name in ["a", "b", ""]:
                with self.subTest((name, repr(text))), self.assertRaises(DiskError):
                    disk.put(name, text)
        with self.assertRaises(DiskError):
            disk.remove("b")
        self.assertEqual(stored(disk), {"a": "1"})

    def test_two_disks_share_nothing(self):
        one, other = Disk(), Disk()
        one.put("a", "1")
        one.arm(0, True)
        other.put("b", "2")
        self.assertEqual((stored(one), stored(other)), ({"a": "1"}, {"b": "2"}))


class Armed(unittest.TestCase):
    def setUp(self):
        self.disk = Disk()
        self.disk.put("a", "1")
        self.disk.put("b", "2")

    def crashes(self, call, *some):
        with self.assertRaises(DiskCrashed):
            call(*some)

    def assert_crashed(self):
        disk = self.disk
        for call, some in [(disk.put, ("a", "1")), (disk.put, ("", None)), (disk.remove, ("a",)),
                           (disk.remove, ("zz",)),
                           (disk.remove, (None,)), (disk.read, ("a",)), (disk.read, ("zz",)), (disk.names, ())]:
            self.crashes(call, *some)

    def test_an_operation_before_at_and_behind_the_crash(self):
        for count in range(5):
            for kept in [True, False]:
                self.setUp()
                self.assertIsNone(self.disk.arm(count, kept))
                for at in range(count):
                    self.disk.put("c", str(at))
                    self.assertEqual(self.disk.read("c"), str(at))
                self.crashes(self.disk.put, "d", "4")
                self.assert_crashed()
                self.assertIsNone(self.disk.restart())
                told = {"a": "1", "b": "2"}
                if count:
                    told["c"] = str(count - 1)
                if kept:
                    told["d"] = "4"
                with self.subTest((count, kept)):
                    self.assertEqual(stored(self.disk), told)

    def test_a_put_that_replaces(self):
        for kept in [True, False]:
            self.setUp()
            self.disk.arm(0, kept)
            self.crashes(self.disk.put, "a", "9")
            self.disk.restart()
            self.assertEqual(stored(self.disk), {"a": "9" if kept else "1", "b": "2"})

    def test_a_remove(self):
        for kept in [True, False]:
            self.setUp()
            self.disk.arm(1, kept)
            self.disk.remove("b")
            self.crashes(self.disk.remove, "a")
            self.assert_crashed()
            self.disk.restart()
            self.assertEqual(stored(self.disk), {} if kept else {"a": "1"})

    def test_reading_is_no_operation(self):
        self.disk.arm(1, False)
        for _ in range(5):
            self.assertEqual(self.disk.read("a"), "1")
            self.assertIsNone(self.disk.read("c"))
            self.assertEqual(self.disk.names(), ["a", "b"])
        self.disk.put("c", "3")
        self.crashes(self.disk.put, "d", "4")

    def test_a_call_with_wrong_arguments_is_no_operation(self):
        self.disk.arm(1, False)
        for _ in range(3):
            for call, some in [(self.disk.put, ("", "1")), (self.disk.put, ("a", None)), (self.disk.remove, ("zz",)),
                               (self.disk.remove, ("",)), (self.disk.put, (None, "1"))]:
                with self.assertRaises(DiskError):
                    call(*some)
        self.disk.put("a", "5")
        # DiskError comes before the crash at this operation, and leaves the disk running.
        for call, some in [(self.disk.put, ("", "1")), (self.disk.put, ("a", None)), (self.disk.remove, ("zz",))]:
            with self.assertRaises(DiskError):
                call(*some)
            self.assertEqual(self.disk.read("a"), "5")
        self.crashes(self.disk.remove, "a")

    def test_a_put_of_the_text_that_is_there_already(self):
        self.disk.arm(1, False)
        self.disk.put("a", "1")
        self.crashes(self.disk.put, "a", "1")
        self.disk.restart()
        self.assertEqual(stored(self.disk), {"a": "1", "b": "2"})

    def test_arm_twice(self):
        self.disk.arm(0, True)
        self.disk.arm(2, False)
        self.disk.put("a", "3")
        self.disk.arm(1, True)
        self.disk.put("a", "4")
        self.disk.arm(0, False)
        self.crashes(self.disk.put, "a", "5")
        self.disk.restart()
        self.assertEqual(self.disk.read("a"), "4")

    def test_arm_on_a_crashed_disk(self):
        self.disk.arm(0, False)
        self.crashes(self.disk.put, "a", "3")
        self.assertIsNone(self.disk.arm(0, True))
        self.assertIsNone(self.disk.arm(5, True))
        self.assert_crashed()
        self.disk.restart()
        for at in range(9):
            self.disk.put("a", str(at))
        self.assertEqual(stored(self.disk), {"a": "8", "b": "2"})

    def test_restart_disarms(self):
        self.disk.arm(0, False)
        self.assertIsNone(self.disk.restart())
        self.disk.put("a", "3")
        self.disk.arm(2, True)
        self.disk.put("a", "4")
        self.disk.restart()
        for at in range(5):
            self.disk.put("a", str(at))
        self.assertEqual(self.disk.read("a"), "4")

    def test_a_disk_crashes_again(self):
        for at in range(4):
            self.disk.arm(0, True)
            self.crashes(self.disk.put, "a", str(at))
            self.disk.restart()
            self.assertEqual(self.disk.read("a"), str(at))

    def test_restart_of_a_disk_that_runs(self):
        self.assertIsNone(self.disk.restart())
        self.assertEqual(stored(self.disk), {"a": "1", "b": "2"})


class ManyOperations(unittest.TestCase):
    def test_operations_beside_a_dict(self):
        chance = random.Random(5)
        for _ in range(300):
            disk, texts = Disk(), {}
            left = None
            for _ in range(30):
                if chance.random() < 0.1:
                    left, kept = chance.randrange(4), chance.random() < 0.5
                    disk.arm(left, kept)
                name, text = chance.choice("abc"), chance.choice("123")
                puts = name not in texts or chance.random() < 0.6
                after = dict(texts)
                if puts:
                    after[name] = text
                else:
                    del after[name]
                try:
                    disk.put(name, text) if puts else disk.remove(name)
                except DiskCrashed:
                    self.assertEqual(left, 0)
                    disk.restart()
                    left = None
                    texts = after if kept else texts
                else:
                    self.assertNotEqual(left, 0)
                    left = left - 1 if left is not None else None
                    texts = after
                self.assertEqual(stored(disk), texts)


if __name__ == "__main__":
    unittest.main()
