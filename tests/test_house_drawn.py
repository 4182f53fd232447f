"""Drawn trees and drawn deeds, and behind each deed what the document says of any book."""

import random
import unittest

from minders.errors import NotOn
from minders.house import built
from minders.tree import read, written

WORDS = {"begun", "told", "done", "fallen", "ended", "cut", "gave up", "answers", "gives up"}
STATES = {"off", "on", "told", "turning", "down"}
AGAIN = {"always": ("done", "fallen", "gave up"), "fallen": ("fallen", "gave up"), "never": ()}


def drawn_row(draw, name, minder):
    keep = draw.choice(("always", "always", "fallen", "never"))
    if minder:
        way = draw.choice(("one", "all", "rest", "rest"))
        return f"minder {keep} {way} {draw.choice((0, 1, 2, 3, 9))} {draw.choice((1, 2, 3, 9))} {name}"
    work = draw.choice(("idle", "idle", f"steady {draw.randrange(6)}", f"falls {draw.randrange(6)}"))
    return f"leaf {keep} {draw.randrange(4)} {draw.randrange(4)} {work} {name}"


def drawn_text(draw):
    rows = [drawn_row(draw, "n0", True)]
    depths = [0]
    # The depths at which the next row may stand: under any minder of the rows that are still open.
    for number in range(1, draw.randrange(2, 16)):
        deepest = depths[-1] + 1 if rows[-1].lstrip().startswith("minder") else depths[-1]
        depth = draw.randrange(max(1, deepest - 2), deepest + 1) if deepest <= 6 else draw.randrange(1, 7)
        rows.append("  " * depth + drawn_row(draw, f"n{number}", draw.random() < 0.4))
        depths.append(depth)
    return "\n".join(rows)


class Child:
    """A row as the test reads it by itself, and what the book has told of it so far."""

    def __init__(self, row, place, above):
        words = row.split()
        self.place = place
        self.name = words[-1]
        self.leaf = words[0] == "leaf"
        self.keep = words[1]
        self.numbers = [int(word) for word in words[2:-1] if word.isdigit()]
        self.work = words[4] if self.leaf else ""
        self.above = above
        self.below = []
        self.off = True
        self.told = False
        self.good = False
        self.gives_up = False
        self.answered = []
        self.begun_at = self.told_at = self.steps_told = 0

    def begin(self, turn):
        self.off = self.told = self.good = self.gives_up = False
        self.answered = []
        self.begun_at = turn

    def not_off(self):
        return [child for child in self.below if not child.off]

    def told_below(self):
        return [child for child in self.not_off() if child.told]

    def state(self):
        if self.off:
            return "off"
        if self.told or self.gives_up:
            return "told" if self.leaf else "down"
        return "turning" if self.told_below() else "on"

    def recent(self, turn):
        return [each for each in self.answered if turn - each < self.numbers[1]]


def children_of(text):
    children = {}
    path = []
    for row in text.split("\n"):
        depth = (len(row) - len(row.lstrip(" "))) // 2
        path = path[:depth]
        child = Child(row, len(children), path[-1] if path else None)
        if path:
            path[-1].below.append(child)
        path.append(child)
        children[child.name] = child
    return children


class Watch:
    """Reads a house's book as it grows, and holds every entry against the document."""

    def __init__(self, test, text):
        self.test = test
        self.children = children_of(text)
        self.house = built(read(text))
        self.clock = 0
        self.read_so_far = 0
        self.in_turn = False
        self.stepping = -1
        self.words = set()
        self.states = set()
        self.look()

    def holds(self, law):
        self.test.assertTrue(law, self.house.rows()[:self.read_so_far + 1])

    def look(self):
        for turn, word, name in self.house.rows()[self.read_so_far:]:
            self.words.add(word)
            self.holds(turn == self.clock)
            child = self.children[name]
            if word == "begun":
                self.begun(child)
            elif word == "told":
                self.told(child)
            elif word == "answers":
                self.answers(child)
            elif word == "gives up":
                self.gives_up(child)
            else:
                self.over(child, word)
            self.read_so_far += 1
        self.at_rest()

    def begun(self, child):
        self.holds(child.off)
        self.holds(not child.good)
        self.holds(child.above is None or child.above.state() == "on")
        self.holds(child.above is not None or self.read_so_far == 0)
        child.begin(self.clock)
        for each in child.below:
            each.good = False

    def told(self, child):
        self.holds(not child.off and not child.told)
        if child.above is not None:
            self.holds(child.above.not_off()[-1] is child)
            self.holds(child.above.told_below() == [])
            self.holds(child.above.state() == "down" or child.above.answered != [])
        child.told = True
        child.told_at = self.clock
        # Told ahead of its step, it has that one at the same turn.
        child.steps_told = int(self.in_turn and child.place > self.stepping and child.begun_at < self.clock)

    def answers(self, child):
        minder = child.above
        self.holds(child.off and not child.good)
        self.holds(minder.state() == "on")
        self.holds(len(minder.recent(self.clock)) + 1 <= minder.numbers[0])
        minder.answered.append(self.clock)

    def gives_up(self, child):
        self.holds(not child.leaf and child.state() == "on")
        self.holds(len(child.recent(self.clock)) + 1 > child.numbers[0])
        child.gives_up = True

    def over(self, child, word):
        self.holds(not child.off)
        self.holds(child.not_off() == [])
        if child.leaf:
            self.leaf_over(child, word)
        else:
            self.holds(word == ("gave up" if child.gives_up else "ended"))
            self.holds(child.told or child.gives_up)
        child.off = True
        child.good = not child.told and word not in AGAIN[child.keep]

    # Whoever is over within a turn had a step, unless it was told to end and had to be over at once. Steps go in the
    # order of the rows.
    def leaf_over(self, child, word):
        at_once = word in ("ended", "cut") and min(child.numbers[:2]) == 0
        if self.in_turn and not at_once:
            self.holds(child.place > self.stepping)
            self.holds(child.begun_at < self.clock)
            self.stepping = child.place
        if at_once:
            self.holds(self.house.rows()[self.read_so_far - 1] == (self.clock, "told", child.name))
        if word in ("ended", "cut"):
            self.told_leaf_over(child, word, at_once)
        elif self.in_turn:
            self.holds(not child.told)
            self.holds(child.work == ("steady" if word == "done" else "falls"))
            self.holds(self.clock - child.begun_at == child.numbers[2] + 1)
        else:
            self.holds(word == "fallen")

    def told_leaf_over(self, child, word, at_once):
        grace, slow = child.numbers[:2]
        steps = 0 if at_once else self.clock - child.told_at + child.steps_told
        self.holds(child.told)
        self.holds(word == ("ended" if slow <= grace else "cut"))
        self.holds(steps == min(slow, grace))

    # What is asked of a house when all is settled.
    def at_rest(self):
        self.test.assertEqual(self.house.on(), [name for name, child in self.children.items() if not child.off])
        for name, child in self.children.items():
            self.test.assertEqual(self.house.doing(name), child.state())
            self.states.add(child.state())
            self.holds(child.off or child.above is None or not child.above.off)
            if child.leaf:
                self.leaf_at_rest(child)
            elif child.state() == "on":
                self.holds(all(each.good or not each.off for each in child.below))
            elif not child.off:
                self.holds(len(child.told_below()) == 1)

    def leaf_at_rest(self, child):
        if child.state() == "told":
            self.holds(self.clock - child.told_at + child.steps_told < min(child.numbers[:2]))
        elif child.state() == "on" and child.work != "idle":
            self.holds(self.clock - child.begun_at <= child.numbers[2])

    def turn(self):
        self.clock += 1
        self.in_turn = True
        self.stepping = -1
        self.house.turn()
        self.look()
        self.in_turn = False

    def trip(self, name):
        child = self.children[name]
        if child.off:
            with self.test.assertRaises(NotOn):
                self.house.trip(name)
        else:
            self.house.trip(name)
            self.holds(self.house.rows()[self.read_so_far] == (self.clock, "fallen", name))
        self.look()

    def stop(self):
        top = self.children["n0"]
        before = self.read_so_far
        if top.off:
            with self.test.assertRaises(NotOn):
                self.house.stop()
        else:
            stopped = top.told
            self.house.stop()
            self.holds(stopped or self.house.rows()[before] == (self.clock, "told", "n0"))
            self.holds(not stopped or len(self.house.rows()) == before)
        self.look()


class DrawnTest(unittest.TestCase):
    def deed(self, draw, watch):
        leaves = [name for name, child in watch.children.items() if child.leaf]
        on = [name for name in leaves if not watch.children[name].off]
        number = draw.random()
        if number < 0.02:
            watch.stop()
        elif number < 0.06 and leaves:
            watch.trip(draw.choice(leaves))
        elif number < 0.5 and on:
            watch.trip(draw.choice(on))
        else:
            watch.turn()

    def test_any_book(self):
        words = set()
        states = set()
        for seed in range(600):
            draw = random.Random(seed)
            text = drawn_text(draw)
            with self.subTest(seed=seed):
                tree = read(text)
                self.assertEqual(written(tree), text)
                watch = Watch(self, text)
                for number in range(40):
                    self.deed(draw, watch)
                words |= watch.words
                states |= watch.states
        # Else the draws would have told nothing of some of them.
        self.assertEqual(words, WORDS)
        self.assertEqual(states, STATES)

    def test_two_houses_of_one_tree_and_one_way_of_deeds(self):
        for seed in range(100):
            draw = random.Random(seed)
            text = drawn_text(draw)
            tree = read(text)
            first = built(tree)
            deeds = [draw.choice(("turn", "turn", "trip")) for number in range(20)]
            leaves = [name for name, child in children_of(text).items() if child.leaf]
            names = [draw.choice(leaves or ["n0"]) for deed in deeds]
            self.work(first, deeds, names)
            # Of the same tree, when the first house has done its work.
            second = built(tree)
            self.work(second, deeds, names)
            self.assertEqual(first.rows(), second.rows())
            self.assertEqual(written(tree), text)

    def work(self, house, deeds, names):
        for deed, name in zip(deeds, names):
            if deed == "trip" and name in house.on() and name != "n0":
                house.trip(name)
            else:
                house.turn()


if __name__ == "__main__":
    unittest.main()
