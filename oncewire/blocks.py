"""A memory of words: blocks of some words each, free ones in lists by their sizes."""

FIRST = 12
LEAST = 2
GREATEST = 11


class Blocks:
    """The words of a memory: the top, the free lists' first blocks, then the blocks."""

    def __init__(self):
        self.cells = [FIRST] + [0] * (FIRST - 1)
        self.spare = {}

    def take(self, size):
        """The address of a block of so many words, a free one where there is one."""
        cells = self.cells
        if self.spare.get(size, 0) == 0:
            address = cells[0]
            cells.extend([0] * size)
            cells[0] = address + size
            return address
        address = cells[size]
        cells[size] = cells[address + 1]
        self.spare[size] -= 1
        return address

    def give_back(self, address, size):
        """Puts a block among the free ones."""
        cells = self.cells
        for piece in pieces_of(size):
            cells[address] = 0
            cells[address + 1] = cells[piece]
            cells[piece] = address
            self.spare[piece] = self.spare.get(piece, 0) + 1
            address += piece

    def top_after(self, freed, taken):
        """The top that comes when blocks of these sizes are given back, then ones of those are taken."""
        left = {size: many for size, many in self.spare.items()}
        for piece in [piece for size in freed for piece in pieces_of(size)]:
            left[piece] = left.get(piece, 0) + 1
        top = self.cells[0]
        for size in taken:
            if left.get(size, 0) > 0:
                left[size] -= 1
            else:
                top += size
        return top


def pieces_of(size):
    """The sizes of the free blocks that a block comes to be: there are no lists of greater ones."""
    told = []
    while size > GREATEST:
        told.append(LEAST)
        size -= LEAST
    return told + [size]


def free_blocks(cells):
    """The sizes of the blocks in the free lists by their addresses, None where they are no such lists."""
    told = {}
    for size in range(LEAST, GREATEST + 1):
        address = cells[size]
        while address != 0:
            if not FIRST <= address <= len(cells) - size or cells[address] != 0 or address in told:
                return None
            told[address] = size
            address = cells[address + 1]
    return told
