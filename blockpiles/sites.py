"""Sites, on which blocks are put and taken away, with a history."""

from blockpiles.balance import balance_table
from blockpiles.errors import Inside, InvalidBlock, NothingToUndo, TooMany
from blockpiles.piles import MOST_BLOCKS, check_number, is_block, is_free
from blockpiles.texts import text_of


class Site:
    """A pile that is changed by steps, each of which can be undone."""

    def __init__(self):
        self.blocks = ()
        # What the blocks were before each step.
        self.earlier = []

    def __len__(self):
        """Return the number of blocks."""
        return len(self.blocks)

    def __str__(self):
        """Return the text of the pile."""
        return str(text_of(self.blocks))

    def __eq__(self, other):
        """Return whether other is a site with an equal pile."""
        return isinstance(other, Site) and self.blocks == other.blocks

    def step_to(self, blocks):
        """Make these the blocks, and return whether they stand."""
        self.earlier.append(self.blocks)
        self.blocks = blocks
        return balance_table(blocks).is_solved()

    def put(self, block):
        """Put a block behind the others, and return whether the pile stands then."""
        if not is_block(block):
            raise InvalidBlock("this is not a block")
        if len(self.blocks) >= MOST_BLOCKS:
            raise TooMany("there are as many blocks as a pile may have")
        if not is_free(block, self.blocks):
            raise Inside("a point would lie inside two blocks")
        return self.step_to(self.blocks + (block,))

    def take(self, number):
        """Take a block away, and return whether the pile stands then."""
        check_number(self.blocks, number)
        return self.step_to(self.blocks[:number] + self.blocks[number + 1:])

    def pile(self):
        """Return the pile."""
        return self.blocks

    def undo(self):
        """Undo the last step, and return the pile then."""
        if not self.earlier:
            raise NothingToUndo("there is no step to undo")
        self.blocks = self.earlier.pop()
        return self.blocks

    def duplicate(self):
        """Return a site with the same pile, and no step to undo."""
        other = Site()
        other.blocks = self.blocks
        return other
