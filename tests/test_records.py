import random
import unittest

from pastamended.records import read_block, record_blocks


class RecordBlocksTest(unittest.TestCase):
    def check(self, generation, number, text, blocks):
        self.assertEqual(record_blocks(generation, number, text), blocks)

    def test_no_piece_has_text(self):
        self.check(0, 1, "", ["0 1 0 1 "])
        self.check(7, 0, "", ["7 0 0 1 "])

    def test_one_piece(self):
        self.check(0, 1, "a", ["0 1 0 1 a"])
        self.check(12, 305, "insert t (1) always", ["12 305 0 1 insert t (1) always"])
        self.check(0, 1, "x" * 31, ["0 1 0 1 " + "x" * 31])
        self.check(0, 1, " ", ["0 1 0 1  "])
        self.check(0, 1, "\n", ["0 1 0 1 \n"])

    def test_just_whole_pieces(self):
        self.check(3, 4, "x" * 32, ["3 4 0 1 " + "x" * 32])
        self.check(3, 4, "x" * 32 + "y" * 32, ["3 4 0 2 " + "x" * 32, "3 4 1 2 " + "y" * 32])
        self.check(3, 4, "x" * 96, [f"3 4 {index} 3 " + "x" * 32 for index in range(3)])

    def test_several_pieces(self):
        self.check(3, 4, "x" * 32 + "y", ["3 4 0 2 " + "x" * 32, "3 4 1 2 y"])
        self.check(3, 4, "x" * 31 + "\n" + "\n" * 32 + "  ", [
            "3 4 0 3 " + "x" * 31 + "\n", "3 4 1 3 " + "\n" * 32, "3 4 2 3   "])
        blocks = record_blocks(10, 999, "x" * 32 * 11)
        self.assertEqual(blocks[10], "10 999 10 11 " + "x" * 32)
        self.assertEqual(len(blocks), 11)

    def test_the_longest_blocks_fit(self):
        for block in record_blocks(99999, 999999, "x" * 32 * 1000):
            self.assertLessEqual(len(block), 64)


class ReadBlockTest(unittest.TestCase):
    def check_none(self, *texts):
        for text in texts:
            self.assertIsNone(read_block(text), text)

    def test_each_block_of_a_record(self):
        texts = ["", "a", " ", "\n", "1 2 3", "x" * 31, "x" * 32, "x" * 33, "x" * 64, "x" * 65, " " * 100, "\n" * 400]
        for text in texts:
            for generation, number in ((0, 0), (0, 1), (10, 100), (907, 999999)):
                blocks = record_blocks(generation, number, text)
                read = [read_block(block) for block in blocks]
                self.assertEqual([one[:4] for one in read],
                                 [(generation, number, index, len(blocks)) for index in range(len(blocks))])
                self.assertEqual("".join([one[4] for one in read]), text)

    def test_pieces_with_spaces_and_newlines(self):
        self.assertEqual(read_block("0 1 0 1 "), (0, 1, 0, 1, ""))
        self.assertEqual(read_block("0 1 0 1  "), (0, 1, 0, 1, " "))
        self.assertEqual(read_block("0 1 0 1   a  "), (0, 1, 0, 1, "  a  "))
        self.assertEqual(read_block("0 1 0 1 \n\n"), (0, 1, 0, 1, "\n\n"))
        self.assertEqual(read_block("0 1 0 1 1 2 3"), (0, 1, 0, 1, "1 2 3"))
        self.assertEqual(read_block("5 6 2 3  "), (5, 6, 2, 3, " "))

    def test_numbers_that_are_missing(self):
        self.check_none("", " ", "0", "0 1", "0 1 0", "0 1 0 1", "0 1 0 ", "0 1 0 1x", "0 1 1 a", "1 0 1 abc",
                        "root 1", "    ", "     ", "\n", "0\n1\n0\n1\n")

    def test_numbers_that_are_empty(self):
        self.check_none(" 1 0 1 a", "0  0 1 a", "0 1  1 a", "0 1 0  a", " 0 1 0 1 a", "0  1 0 1 a", "0 1  0 1 a",
                        "0 1 0  1 a")

    def test_leading_zeros(self):
        self.check_none("00 1 0 1 a", "01 1 0 1 a", "0 01 0 1 a", "0 00 0 1 a", "0 1 00 1 a", "0 1 0 01 a",
                        "0 1 01 2 a")

    def test_signs_and_letters(self):
        for wrong in ("-0", "+0", "-1", "+1", "a", "1a", "a1", "1.", "1.0", "1e0", "0x1", "1_0", "\n1", "1\n", "1,", "("):
            numbers = ["1", "1", "0", "1"]
            for at in range(4):
                self.check_none(" ".join(numbers[:at] + [wrong] + numbers[at + 1:]) + " a")

    def test_digits_that_are_not_decimal_digits_of_ascii(self):
        # The disk has no such characters, but a text may.
        self.check_none("\u0661 1 0 1 a", "1 \u00b2 0 1 a", "1 1 0 \uff11 a")

    def test_indexes(self):
        whole = "x" * 32
        self.check_none("0 1 0 0 ", "0 1 0 0 " + whole, "0 1 1 1 a", "0 1 1 1 " + whole, "0 1 2 1 a", "0 1 2 2 a",
                        "0 1 2 2 " + whole, "0 1 9 2 a", "0 1 10 9 " + whole)
        self.assertEqual(read_block("0 1 9 10 a"), (0, 1, 9, 10, "a"))
        self.assertEqual(read_block("0 1 8 10 " + whole), (0, 1, 8, 10, whole))

    def test_pieces_that_are_too_short_or_too_long(self):
        whole = "x" * 32
        self.check_none("0 1 0 1 " + whole + "x", "0 1 1 2 " + whole + "x", "0 1 0 2 " + whole + "x")
        self.check_none("0 1 0 2 ", "0 1 0 2 a", "0 1 0 2 " + whole[1:], "0 1 1 3 " + whole[1:], "0 1 1 2 ", "0 1 2 3 ")
        self.assertEqual(read_block("0 1 0 2 " + whole), (0, 1, 0, 2, whole))
        self.assertEqual(read_block("0 1 1 2 " + whole), (0, 1, 1, 2, whole))
        self.assertEqual(read_block("0 1 1 2 x"), (0, 1, 1, 2, "x"))

    def test_random_texts(self):
        source = random.Random(43)
        for _ in range(3000):
            text = self.random_text(source)
            found = read_block(text)
            self.assertEqual(found is not None, self.is_block(text), text)
            if found is not None:
                self.assertEqual("{} {} {} {} {}".format(*found), text)

    def random_text(self, source):
        """A text that is a block, or nearly one."""
        numbers = [str(source.choice([0, 1, 1, 2, 3, 12])) for _ in range(4)]
        text = " ".join(numbers) + " " + "x" * source.choice([0, 1, 5, 31, 32, 32, 33])
        if source.random() < 0.4:
            at = source.randrange(len(text))
            text = text[:at] + source.choice(["", " ", "0", "-", "a", "\n"]) + text[at + source.randrange(2):]
        return text

    def is_block(self, text):
        """Whether a record has this block: the least records of all numbers of pieces are looked through."""
        parts = text.split(" ")
        if len(parts) < 5 or not all([part.isdigit() and len(part) < 4 for part in parts[:4]]):
            return False
        generation, number, index, pieces = [int(part) for part in parts[:4]]
        piece = " ".join(parts[4:])
        if pieces < 1 or index >= pieces:
            return False
        before = "y" * 32 * index
        behind = "" if index == pieces - 1 else "y" * (32 * (pieces - index - 2) + 1)
        blocks = record_blocks(generation, number, before + piece + behind)
        return len(blocks) == pieces and blocks[index] == text


if __name__ == "__main__":
    unittest.main()
