import copy
import random
import unittest

from pastamended.disk import Disk
from pastamended.errors import DiskFull, PowerLost
from pastamended.journal import Journal
from pastamended.records import record_blocks
from power import Traced, blocks_of, losses


def state(journal):
    return (journal.generation, journal.number, journal.image_number, journal.image, journal.records())


def text_of(blocks, letter="x"):
    """A text that takes this number of blocks, the last of which has one character."""
    return letter * (32 * (blocks - 1) + 1)


class JournalTest(unittest.TestCase):
    def check_full(self, disk, journal, call, text):
        """Holds that the call raises DiskFull, writes nothing and leaves the journal as it was."""
        blocks, before, waiting = blocks_of(disk), state(journal), disk.waiting()
        # A write or sync would raise PowerLost.
        disk.fall_after(0)
        self.assertRaises(DiskFull, call, text)
        disk.fall_after(None)
        self.assertEqual((blocks_of(disk), state(journal), disk.waiting()), (blocks, before, waiting))

    def check_recovered(self, disk, expected):
        """Holds that a new journal has this state, the log behind its records is empty, and that both last."""
        other = copy.deepcopy(disk)
        journal = Journal(other)
        self.assertEqual(state(journal), expected)
        self.assertEqual(other.waiting(), 0)
        length = sum([len(record_blocks(0, 0, text)) for _, text in journal.records()])
        start = 2 * ((disk.size - 1) // 3) + 1
        self.assertEqual(blocks_of(other)[start + length:], [""] * (disk.size - start - length))
        other.fall_after(0)
        self.assertEqual(state(Journal(other)), expected)


class LayoutTest(JournalTest):
    def test_a_new_journal(self):
        for size in range(4, 61):
            disk = Traced(size)
            journal = Journal(disk)
            self.assertEqual(state(journal), (0, 0, 0, "", []))
            self.assertEqual((disk.taken_trace(), blocks_of(disk)), ([], [""] * size))

    def test_the_parts_of_disks(self):
        for size in range(4, 61):
            area = (size - 1) // 3
            disk = Traced(size)
            journal = Journal(disk)
            for generation in range(1, 4):
                self.assertIsNone(journal.write_record("r"))
                self.assertEqual(disk.taken_trace(),
                                 [(2 * area + 1, f"{generation - 1} {generation} 0 1 r"), "sync"])
                self.assertIsNone(journal.checkpoint("i"))
                start = 1 if generation % 2 == 1 else area + 1
                self.assertEqual(disk.taken_trace(), [
                    (start, f"{generation} {generation} 0 1 i"), "sync", (0, f"root {generation}"), "sync"])

    def test_full_logs(self):
        for size in range(4, 61):
            length = size - 1 - 2 * ((size - 1) // 3)
            disk = Disk(size)
            journal = Journal(disk)
            self.assertTrue(journal.has_room("x" * 32 * length))
            self.assertFalse(journal.has_room("x" * (32 * length + 1)))
            self.check_full(disk, journal, journal.write_record, "x" * (32 * length + 1))
            for number in range(1, length + 1):
                self.assertTrue(journal.has_room(""))
                self.assertTrue(journal.has_room("x" * 32 * (length - number + 1)))
                self.assertFalse(journal.has_room("x" * (32 * (length - number + 1) + 1)))
                self.check_full(disk, journal, journal.write_record, "x" * (32 * (length - number + 1) + 1))
                journal.write_record("x" * 32)
            self.assertFalse(journal.has_room(""))
            self.check_full(disk, journal, journal.write_record, "")
            self.check_recovered(disk, (0, length, 0, "", [(n, "x" * 32) for n in range(1, length + 1)]))
            journal.checkpoint("i")
            self.assertTrue(journal.has_room("y" * 32 * length))
            journal.write_record("y" * 32 * length)
            self.check_recovered(disk, (1, length + 1, length, "i", [(length + 1, "y" * 32 * length)]))

    def test_full_areas(self):
        for size in range(4, 61):
            area = (size - 1) // 3
            disk = Disk(size)
            journal = Journal(disk)
            journal.write_record("r")
            for generation in range(1, 4):
                self.check_full(disk, journal, journal.checkpoint, "x" * (32 * area + 1))
                image = str(generation) * 32 * area
                journal.checkpoint(image)
                self.assertEqual(state(journal), (generation, 1, 1, image, []))
                self.check_recovered(disk, (generation, 1, 1, image, []))

    def test_room_changes_nothing(self):
        disk = Disk(10)
        journal = Journal(disk)
        disk.fall_after(0)
        for text in ("", "a", "x" * 96, "x" * 97, "x" * 10000):
            self.assertEqual(journal.has_room(text), len(text) <= 96)
        self.assertEqual(state(journal), (0, 0, 0, "", []))


class RecordsTest(JournalTest):
    def test_records(self):
        disk = Traced(20)
        journal = Journal(disk)
        texts = ["", "a", "x" * 32, "line\nline", "y" * 33]
        for at, text in enumerate(texts):
            self.assertIsNone(journal.write_record(text))
            self.assertEqual(state(journal), (0, at + 1, 0, "", list(zip(range(1, at + 2), texts))))
        self.assertEqual(disk.taken_trace(), [
            (13, "0 1 0 1 "), "sync", (14, "0 2 0 1 a"), "sync", (15, "0 3 0 1 " + "x" * 32), "sync",
            (16, "0 4 0 1 line\nline"), "sync", (17, "0 5 0 2 " + "y" * 32), (18, "0 5 1 2 y"), "sync"])
        self.check_recovered(disk, state(journal))

    def test_a_list_of_records_that_changes(self):
        journal = Journal(Disk(20))
        journal.write_record("a")
        journal.records().clear()
        journal.records().append((2, "b"))
        self.assertEqual(journal.records(), [(1, "a")])

    def test_a_new_journal_goes_on(self):
        disk = Disk(30)
        for number in range(1, 5):
            journal = Journal(disk)
            journal.write_record(f"text {number}")
            self.assertEqual(journal.records(), [(n, f"text {n}") for n in range(1, number + 1)])
        for generation in range(1, 13):
            journal = Journal(disk)
            journal.checkpoint(f"image {generation}")
            journal.write_record("a")
            self.check_recovered(disk, (generation, 4 + generation, 3 + generation, f"image {generation}",
                                        [(4 + generation, "a")]))
        self.assertEqual(disk.block(0), "root 12")

    def test_images(self):
        disk = Traced(12)
        journal = Journal(disk)
        journal.checkpoint("")
        self.assertEqual(state(journal), (1, 0, 0, "", []))
        self.assertEqual(disk.taken_trace(), [(1, "1 0 0 1 "), "sync", (0, "root 1"), "sync"])
        self.check_recovered(disk, (1, 0, 0, "", []))
        for text in ("a", "b"):
            journal.write_record(text)
        journal.checkpoint("x" * 33 + "\n")
        self.assertEqual(state(journal), (2, 2, 2, "x" * 33 + "\n", []))
        self.assertEqual(disk.taken_trace(), [
            (7, "1 1 0 1 a"), "sync", (8, "1 2 0 1 b"), "sync",
            (4, "2 2 0 2 " + "x" * 32), (5, "2 2 1 2 x\n"), "sync", (0, "root 2"), "sync"])
        # A checkpoint without a record has the number of the old image.
        journal.checkpoint("y")
        self.assertEqual(state(journal), (3, 2, 2, "y", []))
        journal.write_record("c")
        self.assertEqual(state(journal), (3, 3, 2, "y", [(3, "c")]))
        self.assertEqual(disk.block(7), "3 3 0 1 c")
        self.check_recovered(disk, state(journal))

    def test_a_shorter_image_over_a_longer_one(self):
        disk = Disk(16)
        journal = Journal(disk)
        for text in (text_of(5, "a"), text_of(4, "b"), text_of(2, "c"), text_of(3, "d"), ""):
            journal.checkpoint(text)
            self.check_recovered(disk, (journal.generation, 0, 0, text, []))


class RecoveryTest(JournalTest):
    def check(self, log, expected, left):
        """Holds that of these blocks in a log of generation 1 behind the image 4 these records count."""
        disk = Traced(31)
        writes = [(0, "root 1"), (1, "1 4 0 1 i"), (11, "2 9 0 1 j")] + [(21 + at, text) for at, text in enumerate(log)]
        for index, text in writes:
            disk.write(index, text)
        disk.sync()
        disk.taken_trace()
        journal = Journal(disk)
        self.assertEqual(journal.records(), expected)
        self.assertEqual((journal.number, journal.image_number), (4 + len(expected), 4))
        emptied = [(21 + at, "") for at, text in enumerate(log) if at >= left and text != ""]
        self.assertEqual(disk.taken_trace(), emptied + ["sync"] if emptied else [])
        self.assertEqual((disk.block(0), disk.block(1), disk.block(11)), ("root 1", "1 4 0 1 i", "2 9 0 1 j"))
        journal.write_record("next")
        self.assertEqual(disk.taken_trace(), [(21 + left, f"1 {5 + len(expected)} 0 1 next"), "sync"])

    def test_records_that_count(self):
        whole = "x" * 32
        self.check([], [], 0)
        self.check(["1 5 0 1 a"], [(5, "a")], 1)
        self.check(["1 5 0 1 a", "1 6 0 2 " + whole, "1 6 1 2 b", "1 7 0 1 "], [(5, "a"), (6, whole + "b"), (7, "")], 4)
        self.check([f"1 {n} 0 1 a" for n in range(5, 15)][:9], [(n, "a") for n in range(5, 14)], 9)

    def test_numbers_and_generations(self):
        for log in (["1 4 0 1 a"], ["1 6 0 1 a"], ["1 0 0 1 a"], ["1 1 0 1 a"], ["0 5 0 1 a"], ["2 5 0 1 a"],
                    ["0 5 0 1 a", "1 5 0 1 a"], ["1 6 0 1 a", "1 5 0 1 a", "1 6 0 1 b"], ["", "1 5 0 1 a"],
                    ["", "", "", "1 5 0 1 a", "", "1 6 0 1 a"]):
            self.check(log, [], 0)
        self.check(["1 5 0 1 a", "1 5 0 1 a", "1 6 0 1 b"], [(5, "a")], 1)
        self.check(["1 5 0 1 a", "1 7 0 1 a"], [(5, "a")], 1)
        self.check(["1 5 0 1 a", "0 6 0 1 a", "1 6 0 1 a"], [(5, "a")], 1)
        self.check(["1 5 0 1 a", "", "1 6 0 1 a", "", "0 7 0 1 b"], [(5, "a")], 1)

    def test_blocks_that_are_missing_or_mixed(self):
        whole, other = "x" * 32, "y" * 32
        for log in (["1 5 0 2 " + whole], ["1 5 1 2 a"], ["1 5 0 2 " + whole, "", "1 5 1 2 a"], ["", "1 5 1 2 a"],
                    ["1 5 1 2 a", "1 5 0 2 " + whole], ["1 5 0 2 " + whole, "1 5 0 2 " + whole],
                    ["1 5 0 2 " + whole, "1 7 1 2 a"], ["1 5 0 2 " + whole, "0 5 1 2 a"],
                    ["1 5 0 2 " + whole, "1 5 1 3 " + other, "1 5 2 3 a"], ["1 5 0 3 " + whole, "1 5 1 2 a"],
                    ["1 5 0 3 " + whole, "1 5 2 3 a", "1 5 1 3 " + other], ["1 5 0 2 " + whole, "a"],
                    ["1 5 0 2 x", "1 5 1 2 a"], ["1 5 1 1 a"], ["nothing"], ["root 1"],
                    ["1 5 0 2 " + whole, "1 5 0 1 a", "1 5 1 2 a"]):
            self.check(log, [], 0)
            self.check(["1 5 0 1 first"] + [text.replace("1 5", "1 6", 1) for text in log], [(5, "first")], 1)

    def test_a_record_that_goes_beyond_the_disk(self):
        disk = Disk(31)
        for index in range(21, 31):
            disk.write(index, f"0 1 {index - 21} 11 " + "x" * 32)
        disk.sync()
        self.assertEqual(state(Journal(disk)), (0, 0, 0, "", []))
        self.assertEqual(blocks_of(disk), [""] * 31)

    def test_the_blocks_of_the_old_generation(self):
        disk = Traced(13)
        journal = Journal(disk)
        for text in ("a", "b", "c", "d"):
            journal.write_record(text)
        journal.checkpoint("i")
        journal.write_record("e")
        disk.taken_trace()
        journal = Journal(disk)
        self.assertEqual(state(journal), (1, 5, 4, "i", [(5, "e")]))
        self.assertEqual(disk.taken_trace(), [(10, ""), (11, ""), (12, ""), "sync"])
        self.assertEqual(state(Journal(disk)), (1, 5, 4, "i", [(5, "e")]))
        self.assertEqual(disk.taken_trace(), [])

    def test_disks_that_are_off(self):
        disk = Disk(10)
        journal = Journal(disk)
        disk.fall_after(0)
        self.assertRaises(PowerLost, journal.write_record, "a")
        self.assertRaises(PowerLost, Journal, disk)
        disk.restart(0)
        self.assertEqual(state(Journal(disk)), (0, 0, 0, "", []))


class PowerTest(JournalTest):
    def prepared(self, steps, size=19):
        """A disk on which a journal did the steps, pairs of "record" or "image" and a text; and its state."""
        disk = Disk(size)
        journal = Journal(disk)
        for word, text in steps:
            (journal.write_record if word == "record" else journal.checkpoint)(text)
        return disk, state(journal)

    def check_losses(self, disk, action, allowed, last):
        """Holds that each loss in the action leaves one of the allowed states; the whole action leaves the last one.

        The recovery behind each loss is lost at each of its steps, too. Returns the states that were found.
        """
        found = []
        for done, other in losses(disk, action):
            now = state(Journal(copy.deepcopy(other)))
            self.assertIn(now, allowed)
            found.append(now)
            self.check_recovered(other, now)
            for _, third in losses(other, Journal):
                self.check_recovered(third, now)
            self.check_goes_on(other, now)
        self.assertEqual(found[-1], last)
        return found

    def check_goes_on(self, disk, now):
        """Holds that nothing of what was left is mixed with what is written next."""
        other = copy.deepcopy(disk)
        journal = Journal(other)
        generation, number, image_number, image, records = now
        for text in (text_of(2, "p"), "q"):
            if journal.has_room(text):
                journal.write_record(text)
                number += 1
                records = records + [(number, text)]
                self.check_recovered(other, (generation, number, image_number, image, records))
        journal.checkpoint("r")
        self.check_recovered(other, (generation + 1, number, number, "r", []))

    def check_action(self, steps, word, text, size=19):
        disk, old = self.prepared(steps, size)
        _, new = self.prepared(steps + [(word, text)], size)

        def action(one):
            journal = Journal(one)
            (journal.write_record if word == "record" else journal.checkpoint)(text)

        return self.check_losses(disk, action, [old, new], new), old, new

    def test_a_record(self):
        whole = [("record", text_of(2, "a")), ("record", "b")]
        for steps in ([], whole, whole + [("image", "i")], whole + [("image", "i"), ("record", "c")],
                      [("image", text_of(5, "i")), ("record", "c"), ("image", "j")]):
            for blocks in (1, 2, 3):
                found, old, new = self.check_action(steps, "record", text_of(blocks))
                self.assertEqual(found[0], old)
                # At its sync all its blocks wait: of all choices just one makes it last.
                self.assertEqual(found[-1 - 2 ** blocks:].count(new), 2)

    def test_a_record_over_an_old_one(self):
        # The blocks of the old generation look like those of the new one but for the generation.
        steps = [("record", text_of(3, "a")), ("record", text_of(2, "b")), ("image", "i")]
        found, old, new = self.check_action(steps, "record", text_of(3, "a"))
        self.assertEqual(set([str(one) for one in found]), {str(old), str(new)})

    def test_a_checkpoint(self):
        first = [("record", text_of(2, "a")), ("record", "b")]
        for steps in ([], first, first + [("image", text_of(5, "i"))], first + [("image", "i"), ("record", "c")],
                      [("image", "i"), ("image", "j"), ("record", "c")],
                      [("image", text_of(5, "i")), ("record", "c"), ("image", text_of(5, "j")), ("record", "d")]):
            for blocks in (1, 3, 5):
                found, old, new = self.check_action(steps, "image", text_of(blocks))
                self.assertEqual(found[0], old)
                # At the last sync the root waits: lost, or not.
                self.assertEqual(found[-3:], [old, new, new])
                self.assertEqual(found.count(new), 2)

    def test_a_recovery(self):
        steps = [("record", text_of(3, "a")), ("image", "i"), ("record", "b")]
        disk, now = self.prepared(steps)
        self.check_losses(disk, Journal, [now], now)
        generation, number, image_number, image, records = now
        text = text_of(3, "c")
        longer = (generation, number + 1, image_number, image, records + [(number + 1, text)])
        for writes in (1, 2, 3):
            lost = copy.deepcopy(disk)
            journal = Journal(lost)
            lost.fall_after(writes)
            self.assertRaises(PowerLost, journal.write_record, text)
            for choice in range(2 ** writes):
                other = copy.deepcopy(lost)
                other.restart(choice)
                # The record is there if all its blocks last.
                expected = longer if choice == 7 else now
                self.check_losses(other, Journal, [expected], expected)

    def test_small_disks(self):
        for size in range(4, 9):
            self.check_action([], "record", "a", size)
            self.check_action([("record", "a")], "image", "i", size)
            self.check_action([("record", "a"), ("image", "i")], "record", "b", size)
            self.check_action([("record", "a"), ("image", "i"), ("record", "b")], "image", "j", size)

    def test_random_runs(self):
        for seed in range(150):
            self.run_one(random.Random(seed))

    def run_one(self, source):
        disk = Disk(source.randrange(4, 30))
        journal = Journal(disk)
        for _ in range(40):
            before = state(journal)
            generation, number, image_number, image, records = before
            word = source.choice(["record", "record", "image", "recover"])
            text = text_of(source.randrange(1, 6), source.choice("abc"))
            after = before
            if word == "record":
                after = (generation, number + 1, image_number, image, records + [(number + 1, text)])
            if word == "image":
                after = (generation + 1, number, number, text, [])
            if source.random() < 0.4:
                disk.fall_after(source.randrange(6))
            try:
                if word == "record":
                    journal.write_record(text)
                elif word == "image":
                    journal.checkpoint(text)
                else:
                    journal = Journal(disk)
            except DiskFull:
                self.assertEqual(state(journal), before)
            except PowerLost:
                disk.restart(source.randrange(2 ** disk.waiting()))
                journal = Journal(disk)
                self.assertIn(state(journal), [before, after])
            else:
                self.assertEqual(state(journal), after)
            disk.fall_after(None)


if __name__ == "__main__":
    unittest.main()
