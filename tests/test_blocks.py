import unittest

from farfacts import blocks
from farfacts.blocks import decode_head, decode_piece, encode_head, encode_record, read_record
from helpers import SIGNS, Case
from worlds import World

ALL_SIGNS = "".join(SIGNS) + "\n"
ZEROS = [0] * 32


def text_of(many):
    """A text of so many characters, all of them where there is room."""
    return (ALL_SIGNS * (many // len(ALL_SIGNS) + 1))[:many]


def wanted_blocks(mark, number, text):
    """The blocks of the record, byte by byte."""
    pieces = [text[at:at + 24] for at in range(0, len(text), 24)] or [""]
    rows = []
    for index, piece in enumerate(pieces):
        row = list(ZEROS)
        row[0] = row[31] = mark
        row[1], row[2] = index, len(pieces)
        row[3], row[4] = (number % 65536) // 256, number % 256
        row[5] = len(piece)
        row[6:6 + len(piece)] = [ord(sign) for sign in piece]
        rows.append(row)
    return rows


class RecordTest(Case):
    def test_bounds(self):
        self.exactly((blocks.PIECE, blocks.PIECES_MOST), (24, 255))

    def test_by_hand(self):
        self.exactly(encode_record(77, 0, ""), [[77, 0, 1] + [0] * 28 + [77]])
        self.exactly(encode_record(83, 258, "ab\n ~"),
                     [[83, 0, 1, 1, 2, 5, 97, 98, 10, 32, 126] + [0] * 20 + [83]])
        self.exactly(encode_record(77, 65537, "x" * 25),
                     [[77, 0, 2, 0, 1, 24] + [120] * 24 + [0, 77], [77, 1, 2, 0, 1, 1, 120] + [0] * 24 + [77]])

    def test_encode(self):
        for many in (0, 1, 2, 23, 24, 25, 47, 48, 49, 72, 95, 96, 240, 6095, 6096, 6097, 6119, 6120):
            for mark in (77, 83):
                for number in (0, 1, 255, 256, 65535, 65536, 65537, 90200, 100000):
                    text = text_of(many)
                    found = encode_record(mark, number, text)
                    self.exactly(found, wanted_blocks(mark, number, text))
                    self.exactly(len(found), max(1, (many + 23) // 24))

    def test_too_long(self):
        for many in (6121, 6122, 6144, 12000, 12001):
            self.out_of_range("text", encode_record, 77, 0, "x" * many)
            self.out_of_range("text", encode_record, 83, 70000, text_of(many))
        self.exactly(len(encode_record(77, 0, "x" * 6120)), 255)

    def test_decode(self):
        for many in (0, 1, 23, 24, 25, 48, 95, 6120):
            for mark, number in ((77, 0), (83, 39), (77, 65535), (77, 65536), (83, 90001)):
                text = text_of(many)
                found = encode_record(mark, number, text)
                for index, block in enumerate(found):
                    before = list(block)
                    piece = text[24 * index:24 * index + 24]
                    self.exactly(decode_piece(block), (mark, index, len(found), number % 65536, piece))
                    self.exactly(block, before)
                self.exactly("".join(decode_piece(block)[4] for block in found), text)

    def test_every_sign(self):
        for code in range(256):
            block = [77, 0, 1, 0, 0, 1, code] + [0] * 24 + [77]
            if code == 10 or 32 <= code <= 126 and code != 37:
                self.exactly(decode_piece(block), (77, 0, 1, 0, chr(code)))
            else:
                self.assertIsNone(decode_piece(block))

    def is_piece(self, block):
        """The words of the document, one after another."""
        if block[0] != block[31] or block[0] not in (77, 83) or block[1] >= block[2] or block[5] > 24:
            return False
        codes, rest = block[6:6 + block[5]], block[6 + block[5]:31]
        good = all((32 <= code <= 126 and code != 37) or code == 10 for code in codes)
        return good and all(code == 0 for code in rest)

    def test_one_byte_changed(self):
        for text in ("", "a", "abc\nde", "x" * 23, "(make user:bob group:a)\n"):
            for mark, number in ((77, 1), (83, 700)):
                right = encode_record(mark, number, text)[0]
                for at in range(32):
                    for byte in range(256):
                        block = right[:at] + [byte] + right[at + 1:]
                        before = list(block)
                        found = decode_piece(block)
                        self.exactly(block, before)
                        self.exactly(found is not None, self.is_piece(block))
                        if found is not None:
                            signs = "".join(chr(code) for code in block[6:6 + block[5]])
                            self.exactly(found, (block[0], block[1], block[2], block[3] * 256 + block[4], signs))
                        if at in (0, 31, 30) and byte != right[at]:
                            self.assertIsNone(found)

    def test_the_middle_of_a_record_changed(self):
        row = encode_record(77, 5, text_of(60))
        for index, block in enumerate(row):
            for byte in range(256):
                # The index must be less than the number of pieces.
                self.exactly(decode_piece(block[:1] + [byte] + block[2:]) is not None, byte < 3)
                self.exactly(decode_piece(block[:2] + [byte] + block[3:]) is not None, byte > index)

    def test_torn(self):
        for text in ("", "a", "x" * 24, "\n" * 24, text_of(24)):
            for mark in (77, 83):
                block = encode_record(mark, 65535, text)[0]
                for many in range(32):
                    self.assertIsNone(decode_piece(block[:many] + [0] * (32 - many)))
                self.exactly(decode_piece(block[:32]), (mark, 0, 1, 65535, text))
                # Zeros over a piece: it is one only as long as nothing is stored.
                for many in range(33):
                    self.exactly(decode_piece([0] * many + block[many:]) is None, many > 0)

    def test_no_pieces(self):
        for block in (ZEROS, [72] + [0] * 30 + [72], [77] * 32, [83] * 32, [255] * 32, [0] * 31 + [77], [77] + [0] * 31,
                      [77, 0, 0] + [0] * 28 + [77], [77, 0, 1] + [0] * 28 + [83], [83, 0, 1] + [0] * 28 + [77],
                      [76, 0, 1] + [0] * 28 + [76], [78, 0, 1] + [0] * 28 + [78], [77, 0, 1, 0, 0, 25] + [65] * 25 + [77],
                      [77, 255, 255, 0, 0, 0] + [0] * 25 + [77]):
            self.assertIsNone(decode_piece(block))
        self.exactly(decode_piece([77, 254, 255, 255, 255, 0] + [0] * 25 + [77]), (77, 254, 255, 65535, ""))

    def test_read_record(self):
        world = World(57)
        other = encode_record(77, 8, "y" * 60)
        for many in (0, 1, 24, 25, 60, 240):
            text = text_of(many)
            row = encode_record(77, 7, text)
            for before in (0, 1, 3):
                found = read_record(other[:1] * before + row + other, before, 77, 7)
                self.exactly(found, (text, before + len(row)))
                self.exactly(read_record(other[:1] * before + row, before, 77, 65543), (text, before + len(row)))
            for mark, number in ((83, 7), (77, 8), (77, 6), (77, 0)):
                self.assertIsNone(read_record(row, 0, mark, number))
            self.assertIsNone(read_record(row, len(row), 77, 7))
            for at in range(len(row)):
                self.assertIsNone(read_record(row[:at], 0, 77, 7))
                self.assertIsNone(read_record(row[:at] + [ZEROS] + row[at + 1:], 0, 77, 7))
                self.assertIsNone(read_record(row[:at] + other[:1] + row[at + 1:], 0, 77, 7))
                for place in (1, 2, 3, 4):
                    wrong = [list(block) for block in row]
                    wrong[at][place] += world.one((1, 1, 2))
                    self.assertIsNone(read_record(wrong, 0, 77, 7))
            if len(row) > 1:
                self.assertIsNone(read_record(row[1:], 0, 77, 7))
                self.assertIsNone(read_record(list(reversed(row)), 0, 77, 7))
        # Pieces in the middle that are not full are not of one record.
        self.assertIsNone(read_record([[77, 0, 2, 0, 7, 1, 65] + [0] * 24 + [77], [77, 1, 2, 0, 7, 1, 65] + [0] * 24 + [77]],
                                      0, 77, 7))


class HeadTest(Case):
    def test_by_hand(self):
        self.exactly(encode_head(0, 0, 0), [72] + [0] * 30 + [72])
        self.exactly(encode_head(255, 90000, 40), [72, 255, 1, 95, 144, 40] + [0] * 24 + [255, 72])
        self.exactly(encode_head(7, 16777215, 255), [72, 7, 255, 255, 255, 255] + [0] * 24 + [7, 72])

    def test_there_and_back(self):
        for generation in (0, 1, 72, 127, 254, 255):
            for base in (0, 1, 255, 256, 257, 65535, 65536, 89999, 90000, 16777215):
                for many in (0, 1, 39, 40, 255):
                    block = encode_head(generation, base, many)
                    self.exactly(len(block), 32)
                    self.exactly(block[6:30], [0] * 24)
                    before = list(block)
                    self.exactly(decode_head(block), (generation, base, many))
                    self.exactly(block, before)

    def test_one_byte_changed(self):
        right = encode_head(9, 66051, 12)
        for at in range(32):
            for byte in range(256):
                block = right[:at] + [byte] + right[at + 1:]
                found = decode_head(block)
                if at in (0, 1, 30, 31) and byte != right[at]:
                    self.assertIsNone(found)
                else:
                    self.exactly(found, (9, block[2] * 65536 + block[3] * 256 + block[4], block[5]))

    def test_torn(self):
        for old, new in ((encode_head(3, 100, 5), encode_head(5, 300, 6)), (encode_head(255, 7, 1), encode_head(1, 8, 2)),
                         (encode_head(254, 90000, 40), encode_head(0, 0, 0))):
            for many in range(33):
                found = decode_head(new[:many] + old[many:])
                if many <= 1:
                    self.exactly(found, decode_head(old))
                elif many <= 30:
                    self.assertIsNone(found)
                else:
                    self.exactly(found, decode_head(new))

    def test_torn_over_zeros(self):
        for generation in (0, 1, 255):
            block = encode_head(generation, 5, 6)
            for many in range(32):
                self.assertIsNone(decode_head(block[:many] + [0] * (32 - many)))

    def test_no_heads(self):
        for block in (ZEROS, [71] + [0] * 30 + [71], [72] + [0] * 31, [0] * 31 + [72], [77] + [0] * 30 + [77],
                      [72, 1] + [0] * 29 + [72], [72] + [0] * 29 + [1, 72], encode_record(77, 0, "")[0]):
            self.assertIsNone(decode_head(block))
        # The bytes between do not make it a head or none.
        self.exactly(decode_head([72] * 32), (72, (72 * 256 + 72) * 256 + 72, 72))

    def test_lists_are_new(self):
        one = encode_head(1, 2, 3)
        one[0] = 9
        self.exactly(encode_head(1, 2, 3)[0], 72)
        rows = encode_record(77, 1, "ab")
        rows[0][0] = 9
        rows.append(7)
        self.exactly(encode_record(77, 1, "ab"), wanted_blocks(77, 1, "ab"))


if __name__ == "__main__":
    unittest.main()
