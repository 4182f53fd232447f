"""What the tests of houses share: rows of a tree, and a look at what was written in the book since the last look."""

import unittest

from minders.house import built
from minders.tree import read


def top(way="one", most=100, span=100, keep="never"):
    return f"minder {keep} {way} {most} {span} top"


def leaf(name, keep="always", grace=0, slow=0, work="idle"):
    return f"  leaf {keep} {grace} {slow} {work} {name}"


def minder(name, keep="always", way="one", most=100, span=100):
    return f"  minder {keep} {way} {most} {span} {name}"


def within(row):
    return "  " + row


class HouseCase(unittest.TestCase):
    def begin(self, *rows):
        self.tree = read("\n".join(rows))
        self.house = built(self.tree)
        self.looked_at = len(self.house.rows())

    # All that has been written since the last look.
    def then(self, *entries):
        rows = self.house.rows()
        told = [f"{turn} {word} {name}" for turn, word, name in rows[self.looked_at:]]
        self.looked_at = len(rows)
        self.assertEqual(told, list(entries))

    def turn(self, *entries):
        self.house.turn()
        self.then(*entries)

    def turns(self, count):
        for number in range(count):
            self.turn()

    def trip(self, name, *entries):
        self.house.trip(name)
        self.then(*entries)

    def stop(self, *entries):
        self.house.stop()
        self.then(*entries)

    def stands(self, **states):
        self.assertEqual({name: self.house.doing(name) for name in states}, states)
        self.assertEqual([name for name in self.house.on() if name in states],
                         [name for name in self.tree.names() if states.get(name, "off") != "off"])

    def all_off(self):
        self.assertEqual(self.house.on(), [])
        for name in self.tree.names():
            self.assertEqual(self.house.doing(name), "off")
