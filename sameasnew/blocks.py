"""The blocks in which a text is stored as a record, one for each of its pieces."""

from sameasnew.disks import BLOCK
from sameasnew.tokens import CHARACTERS

PIECE = 24
PIECES_MOST = 30

# What the first and the last byte of a piece are.
MARK = 83

# How many bytes stand before the codes of a piece.
HEAD = 6


def encode_record(number, text):
    """The list of the blocks of the record with this number and this text."""
    pieces = [text[at:at + PIECE] for at in range(0, len(text), PIECE)]
    return [encode_piece(index, len(pieces), number, piece) for index, piece in enumerate(pieces)]


def encode_piece(index, many, number, piece):
    """The block of a piece."""
    head = [MARK, index, many, number // 256, number % 256, len(piece)]
    codes = [ord(character) for character in piece]
    return head + codes + [0] * (BLOCK - 1 - HEAD - len(codes)) + [MARK]


def decode_piece(block):
    """A tuple of index, how many pieces there are, number and text, or None if the block is no piece."""
    if len(block) != BLOCK or block[0] != MARK or block[-1] != MARK:
        return None
    _, index, many, high, low, length = block[:HEAD]
    if index >= many or not 1 <= length <= PIECE:
        return None
    if any([byte != 0 for byte in block[HEAD + length:-1]]):
        return None
    text = characters_of(block[HEAD:HEAD + length])
    return None if text is None else (index, many, high * 256 + low, text)


def characters_of(codes):
    """The text with these codes, or None if one of them is not that of a character."""
    characters = {ord(character): character for character in CHARACTERS}
    if not all([code in characters for code in codes]):
        return None
    return "".join([characters[code] for code in codes])
