"""Trees of children, read from a text and written as one."""

from minders.errors import BadRow, NoName, NoTop, TooMany
from minders.forms import child_in

MOST_ROWS = 64
MOST_BLANKS = 16


# Of each child, by its place in the order of the rows: its shape, the blanks ahead of its row, and the place of the
# minder above it (None for the top).
class Tree:
    def __init__(self):
        self.children = []
        self.blanks = []
        self.above = []
        self.places = {}

    def names(self):
        return [child.name for child in self.children]

    def find(self, name):
        if name not in self.places:
            raise NoName(f"no child is called {name!r}")
        return self.places[name]

    def take(self, child, blanks, above):
        self.places[child.name] = len(self.children)
        self.children.append(child)
        self.blanks.append(blanks)
        self.above.append(above)

    # The last row with fewer blanks decides: a row ahead of it would have that one between.
    def minder_above(self, blanks):
        for place in range(len(self.children) - 1, -1, -1):
            if self.blanks[place] < blanks:
                fits = self.blanks[place] == blanks - 2 and not self.children[place].leaf()
                return place if fits else None
        return None


def passed_over(row):
    rest = row.lstrip(" ")
    return rest == "" or rest.startswith("#")


def words_in(row):
    return [word for word in row.split(" ") if word != ""]


def blanks_ahead(row):
    return len(row) - len(row.lstrip(" "))


# The first row is the top's, and only there does a child stand under nobody.
def stands_well(tree, child, blanks, above):
    if tree.names() == []:
        return blanks == 0 and not child.leaf()
    return above is not None and blanks <= MOST_BLANKS and child.name not in tree.places


def take_row(tree, row, number):
    child = child_in(words_in(row))
    blanks = blanks_ahead(row)
    above = tree.minder_above(blanks)
    if child is None or not stands_well(tree, child, blanks, above):
        raise BadRow(number)
    if len(tree.names()) == MOST_ROWS:
        raise TooMany(f"more than {MOST_ROWS} rows for children")
    tree.take(child, blanks, above)


def read(text):
    tree = Tree()
    for number, row in enumerate(text.split("\n"), start=1):
        if not passed_over(row):
            take_row(tree, row, number)
    if tree.names() == []:
        raise NoTop("no row for a child")
    return tree


def written_row(child, blanks):
    return " " * blanks + " ".join(child.words() + [child.name])


def written(tree):
    rows = [written_row(child, blanks) for child, blanks in zip(tree.children, tree.blanks)]
    return "\n".join(rows)
