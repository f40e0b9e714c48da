"""Blocks: texts that are stored as pieces of records, and heads."""

from farfacts.disks import BLOCK
from farfacts.errors import OutOfRange
from farfacts.values import PERCENT

PIECE = 24
PIECES_MOST = 255

# What begins and ends the pieces of a transaction, those of an entity, and a head.
CHANGES_MARK = 77
ENTITY_MARK = 83
HEAD_MARK = 72

BYTES = 256
NEWLINE = 10
BLANK = 32
# The characters of texts by their codes, below and above that of the one that stands in no text.
LOW_SIGNS = " !\"#$"
HIGH_SIGNS = "&'()*+,-./0123456789:;<=>?@ABCDEFGHIJKLMNOPQRSTUVWXYZ[\\]^_`abcdefghijklmnopqrstuvwxyz{|}~"


def sign_of(code):
    """The character with this code, or None if it stands in no text."""
    if code == NEWLINE:
        return "\n"
    if BLANK <= code < PERCENT:
        return LOW_SIGNS[code - BLANK]
    above = code - PERCENT - 1
    return HIGH_SIGNS[above] if 0 <= above < len(HIGH_SIGNS) else None


def block_of(start, end):
    """The block that begins and ends so, with zeros between."""
    return start + [0] * (BLOCK - len(start) - len(end)) + end


def encode_record(mark, number, text):
    """The list of the blocks of the record of the text."""
    # The empty text has a piece, too.
    pieces = [text[at:at + PIECE] for at in range(0, max(len(text), 1), PIECE)]
    if len(pieces) > PIECES_MOST:
        raise OutOfRange("text")
    place = [number // BYTES % BYTES, number % BYTES]
    blocks = []
    for index, piece in enumerate(pieces):
        start = [mark, index, len(pieces)] + place + [len(piece)] + [ord(sign) for sign in piece]
        blocks.append(block_of(start, [mark]))
    return blocks


def decode_piece(block):
    """The mark, the index, the number of pieces, the number of the record and the text of a piece; or None."""
    mark, index, many, high, low, length = block[:6]
    if mark not in (CHANGES_MARK, ENTITY_MARK) or mark != block[-1] or index >= many or length > PIECE:
        return None
    signs = [sign_of(code) for code in block[6:6 + length]]
    if None in signs or any([byte != 0 for byte in block[6 + length:-1]]):
        return None
    return (mark, index, many, high * BYTES + low, "".join(signs))


def read_record(blocks, at, mark, number):
    """The text of the record that stands from here on in the list of blocks, and the index behind it; or None."""
    first = decode_piece(blocks[at]) if at < len(blocks) else None
    if first is None:
        return None
    row = blocks[at:at + first[2]]
    pieces = [decode_piece(block) for block in row]
    if None in pieces:
        return None
    text = "".join([piece[4] for piece in pieces])
    # Pieces that are missing, in another order, of other records or too short do not make the same blocks again.
    return (text, at + len(row)) if encode_record(mark, number, text) == row else None


def encode_head(generation, base, many):
    """The block of the head."""
    place = [base // BYTES // BYTES, base // BYTES % BYTES, base % BYTES]
    return block_of([HEAD_MARK, generation] + place + [many], [generation, HEAD_MARK])


def decode_head(block):
    """The generation, the base and the number of entities of a head, or None."""
    mark, generation, high, middle, low, many = block[:6]
    if mark != HEAD_MARK or block[-2:] != [generation, HEAD_MARK]:
        return None
    return (generation, (high * BYTES + middle) * BYTES + low, many)
