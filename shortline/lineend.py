"""What both ends of a line keep: the tree, plain or short, the escape, and how many bits a number has."""

from shortline.tree import Tree

FIRST_BITS = 9
FIRST_ESCAPE = 0
ESCAPE_STEP = 51
BYTE_VALUES = 256

# what stands behind the escape
ESCAPE_SHORT = 0
ESCAPE_ITSELF = 1
ESCAPE_RESET = 2


class LineEnd:

    def __init__(self, codes, longest):
        self.start(codes, longest)

    def start(self, codes, longest):
        self.tree = Tree(codes, longest)
        self.short = False
        self.escape = FIRST_ESCAPE
        self.bits = FIRST_BITS

    # Only plain ends are reset, and these have no string and no bits that wait: what
    # an end keeps beside these four values is as at the beginning already.
    def start_anew(self):
        self.start(self.tree.codes, self.tree.longest)

    def become_like(self, other):
        self.tree = other.tree.copy()
        self.short = other.short
        self.escape = other.escape
        self.bits = other.bits

    def move_escape(self):
        self.escape = (self.escape + ESCAPE_STEP) % BYTE_VALUES
