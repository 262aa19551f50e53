import random
import unittest

from pastamended.disk import Disk
from pastamended.errors import BadBlock, PowerLost
from power import blocks_of

ALLOWED = "\n" + "".join([chr(n) for n in range(32, 127) if chr(n) != "%"])


class DiskTest(unittest.TestCase):
    def check_bad(self, index, function, *arguments):
        with self.assertRaises(BadBlock) as raised:
            function(*arguments)
        self.assertEqual(raised.exception.index, index)

    def check_lost(self, disk):
        """Holds that all three methods raise PowerLost, whatever is passed, and that a write changes nothing."""
        waiting = disk.waiting()
        for index in (0, disk.size - 1, disk.size, -1, 10 ** 20):
            for text in ("a", "", "a" * 65, "%", "\t"):
                self.assertRaises(PowerLost, disk.write, index, text)
            self.assertRaises(PowerLost, disk.block, index)
        self.assertRaises(PowerLost, disk.sync)
        self.assertEqual(disk.waiting(), waiting)


class BlocksTest(DiskTest):
    def test_a_new_disk(self):
        for size in (1, 2, 60):
            disk = Disk(size)
            self.assertEqual(disk.size, size)
            self.assertEqual(blocks_of(disk), [""] * size)
            self.assertEqual(disk.waiting(), 0)

    def test_writes_and_syncs(self):
        disk = Disk(3)
        self.assertIsNone(disk.write(1, "one"))
        self.assertIsNone(disk.write(1, "other"))
        self.assertIsNone(disk.write(2, "two"))
        self.assertEqual((blocks_of(disk), disk.waiting()), (["", "other", "two"], 3))
        self.assertIsNone(disk.sync())
        self.assertEqual((blocks_of(disk), disk.waiting()), (["", "other", "two"], 0))
        disk.write(1, "")
        self.assertEqual((blocks_of(disk), disk.waiting()), (["", "", "two"], 1))

    def test_a_write_of_the_same_text_waits(self):
        disk = Disk(1)
        disk.write(0, "")
        self.assertEqual(disk.waiting(), 1)
        disk.sync()
        self.assertIsNone(disk.sync())
        self.assertEqual(disk.waiting(), 0)

    def test_texts_that_may_stand(self):
        disk = Disk(2)
        for text in [ALLOWED[at:at + 64] for at in range(0, len(ALLOWED), 64)] + list(ALLOWED) + ["", "\n" * 64]:
            disk.write(1, text)
            self.assertEqual(disk.block(1), text)

    def test_texts_that_may_not_stand(self):
        disk = Disk(2)
        disk.write(1, "old")
        texts = ["a" * 65, "\n" * 65, "a" * 1000, "%", "a%b", "%" * 65]
        texts += [chr(n) for n in range(32) if n != 10] + [chr(127), chr(128), chr(160), "é", "a\r\n", "\t", "✓"]
        for text in texts:
            for index in (0, 1):
                self.check_bad(index, disk.write, index, text)
        self.assertEqual((blocks_of(disk), disk.waiting()), (["", "old"], 1))

    def test_indexes_beside_the_disk(self):
        disk = Disk(2)
        for index in (2, 3, -1, -2, -3, 10 ** 30):
            self.check_bad(index, disk.block, index)
            for text in ("a", "", "%", "a" * 65):
                self.check_bad(index, disk.write, index, text)
        self.assertEqual((blocks_of(disk), disk.waiting()), (["", ""], 0))

    def test_two_disks(self):
        disk, other = Disk(1), Disk(1)
        disk.write(0, "a")
        disk.fall_after(0)
        self.assertRaises(PowerLost, disk.sync)
        self.assertEqual((other.block(0), other.waiting()), ("", 0))
        other.write(0, "b")
        other.sync()


class FallTest(DiskTest):
    def test_at_once(self):
        for step in (lambda disk: disk.write(0, "b"), lambda disk: disk.sync()):
            disk = Disk(2)
            disk.write(0, "a")
            self.assertIsNone(disk.fall_after(0))
            self.assertEqual(blocks_of(disk), ["a", ""])
            self.assertRaises(PowerLost, step, disk)
            self.check_lost(disk)
            self.assertEqual(disk.waiting(), 1)
            disk.restart(1)
            self.assertEqual(blocks_of(disk), ["a", ""])

    def test_after_some(self):
        disk = Disk(3)
        disk.fall_after(3)
        disk.write(0, "a")
        disk.sync()
        disk.write(1, "b")
        self.assertEqual(blocks_of(disk), ["a", "b", ""])
        with self.assertRaises(PowerLost):
            disk.write(2, "c")
        self.check_lost(disk)
        disk.restart(0)
        self.assertEqual(blocks_of(disk), ["a", "", ""])

    def test_a_sync_that_is_not_done(self):
        disk = Disk(2)
        disk.fall_after(1)
        disk.write(0, "a")
        self.assertRaises(PowerLost, disk.sync)
        self.assertEqual(disk.waiting(), 1)
        disk.restart(0)
        self.assertEqual((blocks_of(disk), disk.waiting()), (["", ""], 0))

    def test_never(self):
        disk = Disk(1)
        disk.fall_after(0)
        disk.fall_after(None)
        for _ in range(50):
            disk.write(0, "a")
            disk.sync()
        disk.fall_after(1)
        disk.write(0, "b")
        self.assertIsNone(disk.fall_after(None))
        disk.sync()

    def test_a_later_number_counts(self):
        disk = Disk(1)
        disk.fall_after(5)
        disk.write(0, "a")
        disk.fall_after(1)
        disk.sync()
        self.assertRaises(PowerLost, disk.sync)

    def test_bad_writes_and_reads_do_not_count(self):
        disk = Disk(2)
        disk.fall_after(1)
        for _ in range(3):
            self.check_bad(2, disk.write, 2, "a")
            self.check_bad(-1, disk.write, -1, "a")
            self.check_bad(0, disk.write, 0, "%")
            self.check_bad(1, disk.write, 1, "a" * 65)
            self.check_bad(2, disk.block, 2)
            self.assertEqual(disk.block(1), "")
            self.assertEqual(disk.waiting(), 0)
        disk.write(1, "a")
        # Nothing is left, but the power is not lost at these.
        self.check_bad(2, disk.write, 2, "a")
        self.check_bad(0, disk.write, 0, "%")
        self.assertEqual(disk.block(1), "a")
        self.assertRaises(PowerLost, disk.write, 1, "b")
        self.check_lost(disk)

    def test_fall_after_behind_a_loss(self):
        disk = Disk(1)
        for n in (None, 5, 0):
            disk.fall_after(0)
            self.assertRaises(PowerLost, disk.sync)
            disk.fall_after(n)
            self.check_lost(disk)
            disk.restart(0)
            disk.sync()


class RestartTest(DiskTest):
    def test_choices(self):
        for choice in range(16):
            disk = Disk(4)
            for index in range(3):
                disk.write(index, f"old{index}")
            disk.sync()
            for index in (2, 0, 1, 3):
                disk.write(index, f"new{index}")
            self.assertIsNone(disk.restart(choice))
            expected = ["old0", "old1", "old2", ""]
            for at, index in enumerate((2, 0, 1, 3)):
                if choice & 2 ** at:
                    expected[index] = f"new{index}"
            self.assertEqual((blocks_of(disk), disk.waiting()), (expected, 0))

    def test_the_order_of_writing(self):
        for choice, expected in enumerate(["", "a", "b", "b", "c", "c", "c", "c"]):
            disk = Disk(1)
            for text in ("a", "b", "c"):
                disk.write(0, text)
            disk.restart(choice)
            self.assertEqual(disk.block(0), expected)

    def test_digits_beyond_the_waiting_writes(self):
        disk = Disk(2)
        disk.write(0, "a")
        disk.write(1, "b")
        disk.restart(2 ** 200 + 2)
        self.assertEqual(blocks_of(disk), ["", "b"])
        disk.restart(2 ** 200 - 1)
        self.assertEqual(blocks_of(disk), ["", "b"])

    def test_what_was_synced_lasts(self):
        disk = Disk(2)
        disk.write(0, "a")
        disk.sync()
        disk.write(0, "b")
        disk.write(1, "b")
        disk.restart(0)
        self.assertEqual(blocks_of(disk), ["a", ""])
        disk.restart(0)
        self.assertEqual(blocks_of(disk), ["a", ""])

    def test_what_lasted_at_a_restart_lasts_at_the_next(self):
        disk = Disk(2)
        disk.write(0, "a")
        disk.write(1, "b")
        disk.restart(1)
        disk.write(1, "c")
        disk.restart(0)
        self.assertEqual(blocks_of(disk), ["a", ""])

    def test_fall_after_is_forgotten(self):
        disk = Disk(1)
        disk.fall_after(2)
        disk.write(0, "a")
        disk.restart(1)
        for _ in range(5):
            disk.write(0, "b")
            disk.sync()
        disk.fall_after(0)
        self.assertRaises(PowerLost, disk.sync)
        disk.restart(0)
        for _ in range(5):
            disk.write(0, "c")
            disk.sync()
        self.assertEqual(disk.block(0), "c")


class RandomTest(DiskTest):
    def test_against_a_list_of_writes(self):
        for seed in range(200):
            self.run_one(random.Random(seed))

    def run_one(self, source):
        size = source.randrange(1, 5)
        disk = Disk(size)
        lasting, queue, left, lost = {}, [], None, False
        for step in range(60):
            word = source.choice(["write", "write", "write", "sync", "block", "fall", "restart"])
            index, text = source.randrange(-1, size + 1), source.choice([f"text {step}", "", "%", "a" * 64, "a" * 65])
            bad = not 0 <= index < size or (word == "write" and text in ("%", "a" * 65))
            if word == "fall":
                left = source.choice([None, 0, 1, 2, 5])
                disk.fall_after(left)
            elif word == "restart":
                if lost or source.random() < 0.3:
                    choice = source.randrange(2 ** (len(queue) + 1))
                    disk.restart(choice)
                    lasting = {**lasting, **dict([pair for at, pair in enumerate(queue) if choice >> at & 1])}
                    queue, left, lost = [], None, False
            elif not lost and word != "sync" and bad:
                self.check_bad(index, *((disk.write, index, text) if word == "write" else (disk.block, index)))
            elif lost or (word != "block" and left == 0):
                lost = True
                call = {"write": (disk.write, index, text), "sync": (disk.sync,), "block": (disk.block, index)}[word]
                self.assertRaises(PowerLost, *call)
            elif word == "block":
                self.assertEqual(disk.block(index), {**lasting, **dict(queue)}.get(index, ""))
            else:
                left = None if left is None else left - 1
                if word == "write":
                    disk.write(index, text)
                    queue = queue + [(index, text)]
                else:
                    disk.sync()
                    lasting, queue = {**lasting, **dict(queue)}, []
            self.assertEqual(disk.waiting(), len(queue))


if __name__ == "__main__":
    unittest.main()
