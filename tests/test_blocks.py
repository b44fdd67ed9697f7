import inspect
import unittest

from sameasnew import blocks
from sameasnew.blocks import PIECE, PIECES_MOST, decode_piece, encode_record

# All characters that a piece can have.
ALL = "".join([chr(code) for code in range(32, 127) if code != 37])


def row(index, many, number, text):
    """The block of a piece, written out from point 28."""
    codes = [ord(character) for character in text]
    return [83, index, many, number // 256, number % 256, len(text)] + codes + [0] * (24 - len(text)) + [0, 83]


class Interface(unittest.TestCase):
    def test_constants(self):
        self.assertEqual((PIECE, PIECES_MOST), (24, 30))

    def test_arguments(self):
        for function, names in ((encode_record, ["number", "text"]), (decode_piece, ["block"])):
            self.assertEqual(list(inspect.signature(function).parameters), names)
            self.assertEqual(function.__module__, blocks.__name__)


class Encoded(unittest.TestCase):
    def test_a_block_byte_by_byte(self):
        self.assertEqual(encode_record(0, "a"), [[83, 0, 1, 0, 0, 1, 97] + [0] * 23 + [0, 83]])
        self.assertEqual(encode_record(258, "update 0"),
                         [[83, 0, 1, 1, 2, 8, 117, 112, 100, 97, 116, 101, 32, 48] + [0] * 16 + [0, 83]])
        self.assertEqual(encode_record(1, "x" * 24), [[83, 0, 1, 0, 1, 24] + [120] * 24 + [0, 83]])

    def test_lengths(self):
        for length in (1, 2, 23, 24, 25, 47, 48, 49, 100, 719, 720):
            text = (ALL * 8)[:length]
            pieces = [text[at:at + 24] for at in range(0, length, 24)]
            found = encode_record(7, text)
            self.assertEqual(found, [row(index, len(pieces), 7, piece) for index, piece in enumerate(pieces)])
            self.assertEqual({len(block) for block in found}, {32})
        self.assertEqual(len(encode_record(0, "x" * 720)), 30)
        self.assertEqual(len(encode_record(0, "x" * 24)), 1)
        self.assertEqual(len(encode_record(0, "x" * 25)), 2)

    def test_numbers(self):
        for number in (0, 1, 255, 256, 257, 399, 511, 512, 9999, 65535):
            self.assertEqual(encode_record(number, "abc"), [row(0, 1, number, "abc")])

    def test_lists_are_new(self):
        found = encode_record(0, "a" * 25)
        found[0][0] = 0
        found.clear()
        self.assertEqual(len(encode_record(0, "a" * 25)), 2)
        self.assertEqual(encode_record(0, "a" * 25)[0][0], 83)


class Decoded(unittest.TestCase):
    def check(self, expected, block):
        with self.subTest(block):
            before = list(block)
            found = decode_piece(block)
            self.assertEqual(found, expected)
            self.assertIs(type(found), type(expected))
            # The row that was handed in stays.
            self.assertEqual(block, before)

    def test_what_was_encoded(self):
        for length in (1, 24, 25, 720):
            for number in (0, 255, 256, 399, 65535):
                text = (ALL * 8)[:length]
                found = [decode_piece(block) for block in encode_record(number, text)]
                self.assertEqual([piece[0] for piece in found], list(range(len(found))))
                self.assertEqual({piece[1:3] for piece in found}, {(len(found), number)})
                self.assertEqual("".join([piece[3] for piece in found]), text)

    def test_every_code(self):
        for code in range(256):
            block = row(0, 1, 0, "ab")
            block[7] = code
            good = 32 <= code <= 126 and code != 37
            self.check((0, 1, 0, "a" + chr(code)) if good else None, block)

    def test_numbers_of_the_row_are_not_looked_at(self):
        self.check((0, 1, 65535, "a"), row(0, 1, 65535, "a"))
        self.check((254, 255, 0, "a"), row(254, 255, 0, "a"))
        self.check((5, 255, 0, "ab"), row(5, 255, 0, "ab"))
        # A piece that is not the last one may be shorter; that it is one of a record is looked at elsewhere.
        self.check((0, 2, 3, "a"), row(0, 2, 3, "a"))

    def test_indexes(self):
        for index, many in ((0, 0), (1, 1), (2, 1), (5, 0), (255, 255), (30, 30)):
            self.check(None, row(index, many, 0, "a"))
        self.check((29, 30, 0, "a"), row(29, 30, 0, "a"))

    def test_lengths(self):
        self.check((0, 1, 0, "x" * 24), row(0, 1, 0, "x" * 24))
        for length in (0, 2, 23, 25, 26, 83, 255):
            block = row(0, 1, 0, "x")
            block[5] = length
            self.check(None, block)
        block = row(0, 1, 0, "x" * 24)
        for length in (0, 1, 23, 25, 26, 27, 32, 255):
            self.check(None, block[:5] + [length] + block[6:])
        self.check(None, [83, 0, 1, 0, 0, 0] + [0] * 25 + [83])

    def test_what_stands_behind_the_codes(self):
        for length in (1, 23, 24):
            for at in range(6 + length, 31):
                for byte in (1, 97, 83, 255):
                    block = row(0, 1, 0, "x" * length)
                    block[at] = byte
                    self.check(None, block)

    def test_the_first_and_the_last_byte(self):
        for at in (0, 31):
            for byte in (0, 82, 84, 255):
                block = row(0, 1, 0, "x" * 24)
                block[at] = byte
                self.check(None, block)

    def test_rows_with_any_one_byte_changed(self):
        """Either no piece, or one that has just this block."""
        for text in ("a", "some text", "x" * 24):
            good = row(1, 3, 300, text)
            for at in range(32):
                for byte in range(256):
                    block = list(good)
                    block[at] = byte
                    found = decode_piece(block)
                    if found is not None:
                        self.assertEqual(row(*found), block)
                    self.assertEqual(found == (1, 3, 300, text), block == good)
                    self.assertEqual(found is None, not good_byte(at, byte, text))

    def test_torn_pieces(self):
        good = row(0, 1, 5, "x" * 24)
        for many in range(32):
            self.check(None, good[:many] + [0] * (32 - many))
            self.check(None, [0] * (32 - many) + good[32 - many:])
        for text in ("a", "some text"):
            for many in range(32):
                self.check(None, row(0, 1, 5, text)[:many] + [0] * (32 - many))

    def test_rows_that_are_no_pieces(self):
        for block in ([0] * 32, [83] * 32, [255] * 32, [83] + [0] * 30 + [83], list(range(32)), [], [83], [83, 83]):
            self.check(None, block)


def good_byte(at, byte, text):
    """Whether the block of piece 1 of 3, number 300, with this text, is a piece with this byte at the index."""
    if at in (0, 31):
        return byte == 83
    if at == 1:
        return byte < 3
    if at == 2:
        return byte > 1
    if at in (3, 4):
        return True
    if at == 5:
        return byte == len(text)
    if at < 6 + len(text):
        return 32 <= byte <= 126 and byte != 37
    return byte == 0


if __name__ == "__main__":
    unittest.main()
