"""The shapes of children: what a row tells of a leaf or of a minder, and nothing of how its work stands."""

from minders.bits import below, bit, without

FALLS = ("fallen", "gave up")


class Child:
    def __init__(self, name, keep):
        self.name = name
        self.keep = keep

    # Asked only of an end that nobody asked for: whoever was told to end is begun by its minder's choice alone.
    def begun_again(self, word):
        return self.keep == "always" or (self.keep == "fallen" and word in FALLS)


class Leaf(Child):
    def __init__(self, name, keep, grace=0, slow=0):
        Child.__init__(self, name, keep)
        self.grace = grace
        self.slow = slow

    def leaf(self):
        return True

    def words(self):
        return ["leaf", self.keep, str(self.grace), str(self.slow)] + self.work_words()

    def work_words(self):
        return ["idle"]

    # An idle leaf goes on, however many steps it has done.
    def end_at(self, steps):
        return ""


class Worker(Leaf):
    def __init__(self, name, keep, many, grace=0, slow=0):
        Leaf.__init__(self, name, keep, grace, slow)
        self.many = many

    def worked_out(self, steps):
        return steps >= self.many


class Steady(Worker):
    def work_words(self):
        return ["steady", str(self.many)]

    def end_at(self, steps):
        return "done" if self.worked_out(steps) else ""


class Faller(Worker):
    def work_words(self):
        return ["falls", str(self.many)]

    def end_at(self, steps):
        return "fallen" if self.worked_out(steps) else ""


class Minder(Child):
    def __init__(self, name, keep, most=1, span=1):
        Child.__init__(self, name, keep)
        self.most = most
        self.span = span

    def leaf(self):
        return False

    def words(self):
        return ["minder", self.keep, self.way(), str(self.most), str(self.span)]

    def way(self):
        return "one"

    # The child that has ended is neither on nor over for good, so here nothing else is to be asked.
    def chosen(self, place, count, on, good):
        return (0, bit(place))


class AllMinder(Minder):
    def way(self):
        return "all"

    # Whoever is on and over for good at once is put away like the others, and not begun.
    def chosen(self, place, count, on, good):
        return (on, without(below(count), good))


class RestMinder(Minder):
    def way(self):
        return "rest"

    def chosen(self, place, count, on, good):
        put_away = without(on, below(place + 1))
        begun = without(below(count), below(place))
        return (put_away, without(begun, good))
