"""How the work of each child stands in one house; its shape is the tree's, and never changed here."""

from minders.bits import below, bit, without
from minders.spans import recent, too_many


class Standing:
    def __init__(self, child):
        self.child = child
        self.state = "off"
        self.asked = False
        self.minder = None
        self.place = 0
        self.minded = []

    def is_off(self):
        return self.state == "off"


class LeafStanding(Standing):
    def __init__(self, child):
        Standing.__init__(self, child)
        self.begun_at = 0
        self.steps = 0
        self.needed = 0
        self.granted = 0

    def begin(self, clock):
        self.state = "on"
        self.asked = False
        self.begun_at = clock
        self.steps = 0

    def tell(self):
        self.state = "told"
        self.asked = True
        self.needed = self.child.slow
        self.granted = self.child.grace

    # Whoever is begun within a turn waits for the next one.
    def steps_at(self, clock):
        return not self.is_off() and self.begun_at < clock

    # The word of the end that a telling brings at this point, or nothing.
    def told_end(self):
        if self.needed == 0:
            return "ended"
        return "cut" if self.granted == 0 else ""

    # The word of the end that this step brings, or nothing.
    def step(self):
        if self.state == "told":
            self.needed -= 1
            self.granted -= 1
            return self.told_end()
        word = self.child.end_at(self.steps)
        self.steps += 1
        return word


# Bit k of good, leaving and coming stands for the child at place k among those minded: who is over for good, who is
# to be put away, and who is to be begun when nobody of those is left.
class MinderStanding(Standing):
    def __init__(self, child):
        Standing.__init__(self, child)
        self.forget()

    def forget(self):
        self.falls = []
        self.good = 0
        self.waiting = []
        self.leaving = 0
        self.coming = 0
        self.gave_up = False

    def mind(self, standing):
        standing.minder = self
        standing.place = len(self.minded)
        self.minded.append(standing)

    def begin(self, clock):
        self.state = "on"
        self.asked = False
        self.forget()

    def steps_at(self, clock):
        return False

    def not_off(self):
        return sum([bit(each.place) for each in self.minded if not each.is_off()])

    def go_down(self):
        self.state = "down"
        self.waiting = []
        self.leaving = below(len(self.minded))
        self.coming = 0

    def tell(self):
        self.asked = True
        self.go_down()

    def give_up(self):
        self.gave_up = True
        self.go_down()

    def last_word(self):
        return "gave up" if self.gave_up else "ended"

    # An end that nobody asked for: where the child isn't over for good, it waits for its answer, if only until the
    # minder that hears of it has a look at who waits.
    def note_end(self, standing, word):
        place = bit(standing.place)
        if not standing.child.begun_again(word):
            self.good = self.good | place
        elif self.state != "down" and self.coming & place == 0:
            self.waiting.append(standing)

    # Counting is left out as long as all together are few enough: else long work would be counted over and over.
    def has_enough(self, clock):
        child = self.child
        if len(self.falls) < child.most:
            return False
        self.falls = recent(self.falls, clock, child.span)
        return too_many(self.falls, clock, child.span, child.most)

    def turn_for(self, standing, clock):
        pair = self.child.chosen(standing.place, len(self.minded), self.not_off(), self.good)
        self.falls.append(clock)
        self.state = "turning"
        self.leaving = pair[0]
        self.coming = pair[1]

    # The one to be put away next, or None.
    def last_left(self):
        left = self.leaving & self.not_off()
        return self.minded[left.bit_length() - 1] if left != 0 else None

    # Gives those that are to be begun, in order. Whoever came to be over for good meanwhile is left out.
    def turn_back(self):
        coming = without(self.coming, self.good)
        self.state = "on"
        self.leaving = 0
        self.coming = 0
        return [each for each in self.minded if coming & bit(each.place) != 0]

    # Behind a minder's turning, whoever waited may be on again, or may have been on and be over for good by now.
    def to_be_answered(self, standing):
        return standing.is_off() and self.good & bit(standing.place) == 0


def standing_of(child):
    return LeafStanding(child) if child.leaf() else MinderStanding(child)


# In the order of the rows, so each minder comes ahead of those it minds.
def standings_of(tree):
    standings = []
    for place, child in enumerate(tree.children):
        standing = standing_of(child)
        if place > 0:
            minder = standings[tree.above[place]]
            minder.mind(standing)
        standings.append(standing)
    return standings
