"""A house: it lets a tree work, turn by turn, and keeps a book of what happens."""

from minders.errors import NoLeaf, NotOn
from minders.standing import standings_of


class House:
    def __init__(self, tree):
        self.tree = tree
        self.clock = 0
        self.entries = []
        self.ends = []
        self.standings = standings_of(tree)
        self.begin(self.standings[0])

    def turn(self):
        self.clock += 1
        for standing in self.standings:
            if standing.steps_at(self.clock):
                self.end_by(standing, standing.step())
                self.settle()

    def trip(self, name):
        standing = self.standing_called(name)
        if not standing.child.leaf():
            raise NoLeaf(f"{name} is a minder")
        if standing.is_off():
            raise NotOn(f"{name} is off")
        self.end_by(standing, "fallen")
        self.settle()

    def stop(self):
        top = self.standings[0]
        if top.is_off():
            raise NotOn("the top is off")
        if not top.asked:
            self.tell(top)
            self.settle()

    def doing(self, name):
        standing = self.standing_called(name)
        return standing.state

    def on(self):
        return [standing.child.name for standing in self.standings if not standing.is_off()]

    def rows(self):
        return list(self.entries)

    def standing_called(self, name):
        return self.standings[self.tree.find(name)]

    def write(self, word, standing):
        self.entries.append((self.clock, word, standing.child.name))

    # Goes no deeper than the tree.
    def begin(self, standing):
        standing.begin(self.clock)
        self.write("begun", standing)
        for each in standing.minded:
            self.begin(each)

    # Goes no deeper than the tree: an end is only noted, and heard of in settle.
    def tell(self, standing):
        self.write("told", standing)
        standing.tell()
        if standing.child.leaf():
            self.end_by(standing, standing.told_end())
        else:
            self.put_away(standing)

    def end_by(self, standing, word):
        if word != "":
            standing.state = "off"
            self.write(word, standing)
            self.ends.append((standing, word))

    def settle(self):
        while self.ends != []:
            end = self.ends.pop(0)
            self.hear(end[0], end[1])

    def hear(self, standing, word):
        minder = standing.minder
        # Nobody hears of the top's end.
        if minder is None:
            return
        if not standing.asked:
            minder.note_end(standing, word)
        if minder.state != "on":
            self.put_away(minder)
        self.answer_waiting(minder)

    # An answer may set the minder turning; then the others wait on.
    def answer_waiting(self, minder):
        while minder.state == "on" and minder.waiting != []:
            standing = minder.waiting.pop(0)
            if minder.to_be_answered(standing):
                self.answer(minder, standing)

    def answer(self, minder, standing):
        if minder.has_enough(self.clock):
            self.write("gives up", minder)
            minder.give_up()
        else:
            self.write("answers", standing)
            minder.turn_for(standing, self.clock)
        self.put_away(minder)

    # One at a time: whoever was told and isn't over yet is waited for.
    def put_away(self, minder):
        last = minder.last_left()
        if last is None:
            self.end_turning(minder)
        elif not last.asked:
            self.tell(last)

    def end_turning(self, minder):
        if minder.state == "down":
            self.end_by(minder, minder.last_word())
        else:
            for standing in minder.turn_back():
                self.begin(standing)


def built(tree):
    return House(tree)
