"""The texts of piles."""

from blockpiles.errors import ParseError
from blockpiles.piles import BLOCK_BOUNDS, check_pile, is_pile

NOTHING = "nothing"


def text_of(blocks):
    """Return the text of what is a pile."""
    if not blocks:
        return NOTHING
    return "; ".join([" ".join([str(number) for number in block]) for block in blocks])


def format_pile(pile):
    """Return the text of a pile."""
    check_pile(pile)
    return text_of(pile)


def numbers_by_text():
    """Return all integers that a block may have, by their texts."""
    least = min([low for low, _ in BLOCK_BOUNDS])
    most = max([high for _, high in BLOCK_BOUNDS])
    return {str(number): number for number in range(least, most + 1)}


def read_block(text, numbers):
    """Return the block with that text, or what is no block."""
    # No other text of a number is looked for: signs and zeros ahead would be read by int, too.
    return tuple([numbers.get(word) for word in text.split(" ")])


def parse_pile(text):
    """Return the pile with that text."""
    if not isinstance(text, str):
        raise ParseError("this is not a text")
    if text == NOTHING:
        return ()
    numbers = numbers_by_text()
    blocks = tuple([read_block(part, numbers) for part in text.split("; ")])
    if not is_pile(blocks):
        raise ParseError("this is not the text of a pile")
    return blocks
