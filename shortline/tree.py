"""The tree of strings that both ends of a line grow by the same rule."""

END = 0
FLUSH = 1
STEP = 2
FIRST_BYTE = 3
FIRST_NODE = 259


# A string is told by its number: a byte's, or a node's.
class Tree:

    def __init__(self, codes, longest):
        self.codes = codes
        self.longest = longest
        self.next_node = FIRST_NODE
        # (a string's number, a byte behind it) to the node that is both
        self.nodes = {}
        # a node to the (number, byte) that it is
        self.ends = {}
        # a number to how many nodes have it for their parent's
        self.heirs = {}
        # a node to how many bytes its string has
        self.lengths = {}

    def copy(self):
        twin = Tree(self.codes, self.longest)
        twin.next_node = self.next_node
        twin.nodes = dict(self.nodes)
        twin.ends = dict(self.ends)
        twin.heirs = dict(self.heirs)
        twin.lengths = dict(self.lengths)
        return twin

    # The node that is this string and this byte, or None.
    def find(self, number, byte):
        return self.nodes.get((number, byte))

    # Whether a number is a string's: a byte's, or that of a node that is there.
    def holds(self, number):
        return FIRST_BYTE <= number < FIRST_NODE or number in self.ends

    def length_of(self, number):
        return self.lengths.get(number, 1)

    # A string's bytes: a node tells its last one, so they are found from behind.
    def bytes_of(self, number):
        backward = []
        while number in self.ends:
            end = self.ends[number]
            backward.append(end[1])
            number = end[0]
        backward.append(number - FIRST_BYTE)
        backward.reverse()
        return backward

    # The node that was added, or None where the rule adds none.
    def add(self, number, byte):
        if self.find(number, byte) is not None or self.length_of(number) >= self.longest:
            return None
        node = self.next_node
        self.nodes[(number, byte)] = node
        self.ends[node] = (number, byte)
        self.heirs[number] = self.heirs.get(number, 0) + 1
        self.lengths[node] = self.length_of(number) + 1
        self.go_on()
        return node

    # This ends, and never takes out the node just added: with codes at least 512 and
    # longest at most 250 the nodes are too many for one chain, so another has no heir.
    def go_on(self):
        node = self.number_behind(self.next_node)
        while self.heirs.get(node, 0) > 0:
            node = self.number_behind(node)
        if node in self.ends:
            self.take_out(node)
        self.next_node = node

    def number_behind(self, node):
        return FIRST_NODE if node == self.codes - 1 else node + 1

    def take_out(self, node):
        end = self.ends.pop(node)
        self.nodes.pop(end)
        self.lengths.pop(node)
        self.heirs[end[0]] -= 1
