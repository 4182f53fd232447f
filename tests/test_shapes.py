import inspect
import unittest

from minders.shapes import AllMinder, Faller, Leaf, Minder, RestMinder, Steady

KEEPS = ("always", "fallen", "never")
ENDS = ("done", "fallen", "ended", "cut", "gave up")
MILLION = 1000000


def one_of_each(name="a", keep="always"):
    return [Leaf(name, keep), Steady(name, keep, 3), Faller(name, keep, 3),
            Minder(name, keep), AllMinder(name, keep), RestMinder(name, keep)]


class MadeTest(unittest.TestCase):
    def holds(self, child, **values):
        self.assertEqual({name: vars(child).get(name) for name in values}, values)

    def test_interface(self):
        worker = {"name": inspect.Parameter.empty, "keep": inspect.Parameter.empty, "many": inspect.Parameter.empty,
                  "grace": 0, "slow": 0}
        idle = {name: default for name, default in worker.items() if name != "many"}
        minder = {"name": inspect.Parameter.empty, "keep": inspect.Parameter.empty, "most": 1, "span": 1}
        for kind, told in ((Leaf, idle), (Steady, worker), (Faller, worker),
                           (Minder, minder), (AllMinder, minder), (RestMinder, minder)):
            with self.subTest(kind=kind.__name__):
                parameters = inspect.signature(kind).parameters
                self.assertEqual([(name, each.default) for name, each in parameters.items()], list(told.items()))

    def test_methods(self):
        for child in one_of_each():
            with self.subTest(child=child.words()):
                self.assertEqual(list(inspect.signature(child.leaf).parameters), [])
                self.assertEqual(list(inspect.signature(child.words).parameters), [])
                self.assertEqual(list(inspect.signature(child.begun_again).parameters), ["word"])
                if child.leaf():
                    self.assertEqual(list(inspect.signature(child.end_at).parameters), ["steps"])
                else:
                    self.assertEqual(list(inspect.signature(child.chosen).parameters),
                                     ["place", "count", "on", "good"])

    def test_leaf(self):
        self.holds(Leaf("ant", "fallen"), name="ant", keep="fallen", grace=0, slow=0)
        self.holds(Leaf("ant", "fallen", 2), name="ant", keep="fallen", grace=2, slow=0)
        self.holds(Leaf("ant", "fallen", slow=3), name="ant", keep="fallen", grace=0, slow=3)
        self.holds(Leaf("ant", "fallen", 2, 3), name="ant", keep="fallen", grace=2, slow=3)
        self.holds(Leaf(slow=3, grace=2, keep="never", name="bee"), name="bee", keep="never", grace=2, slow=3)

    def test_steady_and_faller(self):
        for kind in (Steady, Faller):
            with self.subTest(kind=kind.__name__):
                self.holds(kind("ant", "never", 4), name="ant", keep="never", many=4, grace=0, slow=0)
                self.holds(kind("ant", "never", 4, 2), name="ant", keep="never", many=4, grace=2, slow=0)
                self.holds(kind("ant", "never", 4, slow=3), name="ant", keep="never", many=4, grace=0, slow=3)
                self.holds(kind("ant", "never", 4, 2, 3), name="ant", keep="never", many=4, grace=2, slow=3)
                self.holds(kind(slow=3, grace=2, many=4, keep="always", name="bee"),
                           name="bee", keep="always", many=4, grace=2, slow=3)

    def test_minders(self):
        for kind in (Minder, AllMinder, RestMinder):
            with self.subTest(kind=kind.__name__):
                self.holds(kind("top", "never"), name="top", keep="never", most=1, span=1)
                self.holds(kind("top", "never", 5), name="top", keep="never", most=5, span=1)
                self.holds(kind("top", "never", span=6), name="top", keep="never", most=1, span=6)
                self.holds(kind("top", "never", 5, 6), name="top", keep="never", most=5, span=6)
                self.holds(kind(span=6, most=5, keep="fallen", name="low"), name="low", keep="fallen", most=5, span=6)

    def test_numbers_of_nought_one_and_a_million(self):
        for first, second, third in ((0, 0, 0), (1, 1, 1), (MILLION, MILLION, MILLION), (0, 1, MILLION),
                                     (MILLION, 0, 1), (1, MILLION, 0)):
            with self.subTest(first=first, second=second, third=third):
                self.holds(Leaf("a", "always", first, second), name="a", keep="always", grace=first, slow=second)
                self.holds(Steady("a", "always", first, second, third),
                           name="a", keep="always", many=first, grace=second, slow=third)
                self.holds(Faller("a", "always", first, second, third),
                           name="a", keep="always", many=first, grace=second, slow=third)
                self.holds(Minder("a", "always", first, second + 1),
                           name="a", keep="always", most=first, span=second + 1)

    def test_each_object_has_its_own_values(self):
        first = Steady("ant", "always", 1, 2, 3)
        second = Steady("bee", "never", 4, 5, 6)
        self.holds(first, name="ant", keep="always", many=1, grace=2, slow=3)
        self.holds(second, name="bee", keep="never", many=4, grace=5, slow=6)

    def test_whether_it_is_a_leaf(self):
        self.assertEqual([child.leaf() for child in one_of_each()], [True, True, True, False, False, False])
        for child in one_of_each():
            self.assertIs(type(child.leaf()), bool)

    def test_asking_changes_nothing(self):
        for child in one_of_each("ant", "fallen"):
            before = dict(vars(child))
            child.leaf()
            child.words()
            child.begun_again("fallen")
            if child.leaf():
                child.end_at(3)
            else:
                child.chosen(0, 2, 2, 2)
            self.assertEqual(vars(child), before)


class BegunAgainTest(unittest.TestCase):
    def test_each_keep_at_each_word(self):
        again = {("always", word) for word in ENDS} | {("fallen", "fallen"), ("fallen", "gave up")}
        for keep in KEEPS:
            for child in one_of_each("ant", keep):
                for word in ENDS:
                    with self.subTest(child=child.words(), word=word):
                        self.assertIs(child.begun_again(word), (keep, word) in again)

    def test_the_name_tells_nothing(self):
        for child in one_of_each("always", "never") + one_of_each("fallen", "never"):
            self.assertIs(child.begun_again("fallen"), False)


class WordsTest(unittest.TestCase):
    def test_each_class(self):
        for keep in KEEPS:
            with self.subTest(keep=keep):
                self.assertEqual(Leaf("ant", keep, 2, 3).words(), ["leaf", keep, "2", "3", "idle"])
                self.assertEqual(Steady("ant", keep, 4, 2, 3).words(), ["leaf", keep, "2", "3", "steady", "4"])
                self.assertEqual(Faller("ant", keep, 4, 2, 3).words(), ["leaf", keep, "2", "3", "falls", "4"])
                self.assertEqual(Minder("ant", keep, 5, 6).words(), ["minder", keep, "one", "5", "6"])
                self.assertEqual(AllMinder("ant", keep, 5, 6).words(), ["minder", keep, "all", "5", "6"])
                self.assertEqual(RestMinder("ant", keep, 5, 6).words(), ["minder", keep, "rest", "5", "6"])

    def test_numbers_not_told(self):
        self.assertEqual(Leaf("a", "always").words(), ["leaf", "always", "0", "0", "idle"])
        self.assertEqual(Leaf("a", "always", slow=9).words(), ["leaf", "always", "0", "9", "idle"])
        self.assertEqual(Steady("a", "always", 7, 9).words(), ["leaf", "always", "9", "0", "steady", "7"])
        self.assertEqual(Faller("a", "always", 7).words(), ["leaf", "always", "0", "0", "falls", "7"])
        self.assertEqual(Minder("a", "always").words(), ["minder", "always", "one", "1", "1"])
        self.assertEqual(AllMinder("a", "always", span=9).words(), ["minder", "always", "all", "1", "9"])
        self.assertEqual(RestMinder("a", "always", 0).words(), ["minder", "always", "rest", "0", "1"])

    def test_numbers_of_nought_one_and_a_million(self):
        self.assertEqual(Leaf("a", "never", MILLION, 1).words(), ["leaf", "never", "1000000", "1", "idle"])
        self.assertEqual(Steady("a", "never", 0, 1, MILLION).words(), ["leaf", "never", "1", "1000000", "steady", "0"])
        self.assertEqual(Faller("a", "never", MILLION, 0, 1).words(), ["leaf", "never", "0", "1", "falls", "1000000"])
        self.assertEqual(Minder("a", "never", 0, MILLION).words(), ["minder", "never", "one", "0", "1000000"])
        self.assertEqual(AllMinder("a", "never", MILLION, 1).words(), ["minder", "never", "all", "1000000", "1"])
        self.assertEqual(RestMinder("a", "never", 1, MILLION).words(), ["minder", "never", "rest", "1", "1000000"])

    def test_each_list_is_a_new_one_of_texts(self):
        for child in one_of_each():
            first = child.words()
            second = child.words()
            told = list(first)
            self.assertIs(type(first), list)
            self.assertEqual({type(word) for word in first}, {str})
            self.assertIsNot(first, second)
            first.append("ant")
            first[0] = "bee"
            self.assertEqual(second, told)
            self.assertEqual(child.words(), told)


class EndAtTest(unittest.TestCase):
    def test_an_idle_leaf_goes_on(self):
        for steps in (0, 1, 2, 63, MILLION, 10 ** 9):
            self.assertEqual(Leaf("a", "always").end_at(steps), "")
            self.assertEqual(Leaf("a", "always", 1, 1).end_at(steps), "")

    def test_done_or_fallen_at_the_step_behind_many(self):
        for kind, word in ((Steady, "done"), (Faller, "fallen")):
            for many in (1, 2, 3, 10, 999, MILLION):
                with self.subTest(kind=kind.__name__, many=many):
                    leaf = kind("a", "always", many)
                    self.assertEqual(leaf.end_at(0), "")
                    self.assertEqual(leaf.end_at(many - 1), "")
                    self.assertEqual(leaf.end_at(many), word)
                    self.assertEqual(leaf.end_at(0), "")

    def test_many_nought_is_over_at_the_first_step(self):
        self.assertEqual(Steady("a", "always", 0).end_at(0), "done")
        self.assertEqual(Faller("a", "always", 0).end_at(0), "fallen")

    def test_grace_and_slow_tell_nothing_of_it(self):
        for kind, word in ((Steady, "done"), (Faller, "fallen")):
            for grace, slow in ((0, 9), (9, 0), (9, 9)):
                leaf = kind("a", "never", 4, grace, slow)
                self.assertEqual([leaf.end_at(steps) for steps in range(5)], ["", "", "", "", word])


def asked_by_hand(way, place, count, on, good):
    # The same question over lists of places.
    whom = {"one": [place], "all": list(range(count)), "rest": list(range(place, count))}[way]
    put_away = [other for other in whom if other != place and other in on]
    begun = [other for other in whom if other not in good]
    return (sum(2 ** other for other in put_away), sum(2 ** other for other in begun))


class ChosenTest(unittest.TestCase):
    def setUp(self):
        self.ways = {"one": Minder("a", "never"), "all": AllMinder("a", "never"), "rest": RestMinder("a", "never")}

    def chooses(self, way, told, pair):
        given = self.ways[way].chosen(*told)
        self.assertIs(type(given), tuple)
        self.assertEqual([type(bits) for bits in given], [int, int])
        self.assertEqual(given, pair)

    def test_arguments_by_name(self):
        for way, pair in (("one", (0, 2)), ("all", (9, 11)), ("rest", (8, 10))):
            minder = self.ways[way]
            self.assertEqual(minder.chosen(place=1, count=4, on=9, good=4), pair)

    def test_one_child(self):
        for way in self.ways:
            self.chooses(way, (0, 1, 0, 0), (0, 1))

    def test_two_children(self):
        for way, told, pair in (
                ("one", (0, 2, 2, 0), (0, 1)), ("one", (1, 2, 1, 0), (0, 2)),
                ("all", (0, 2, 2, 0), (2, 3)), ("all", (1, 2, 1, 0), (1, 3)),
                ("all", (0, 2, 0, 2), (0, 1)), ("all", (1, 2, 0, 0), (0, 3)),
                ("rest", (0, 2, 2, 0), (2, 3)), ("rest", (1, 2, 1, 0), (0, 2)),
                ("rest", (0, 2, 0, 2), (0, 1)), ("rest", (1, 2, 1, 1), (0, 2))):
            with self.subTest(way=way, told=told):
                self.chooses(way, told, pair)

    def test_three_children_and_the_middle_one(self):
        for way, pair in (("one", (0, 2)), ("all", (5, 7)), ("rest", (4, 6))):
            self.chooses(way, (1, 3, 5, 0), pair)
        for way, pair in (("one", (0, 2)), ("all", (1, 3)), ("rest", (0, 2))):
            self.chooses(way, (1, 3, 1, 4), pair)

    def test_on_and_over_for_good_at_once(self):
        for way, pair in (("one", (0, 2)), ("all", (5, 2)), ("rest", (4, 2))):
            self.chooses(way, (1, 3, 5, 5), pair)

    def test_every_question_of_up_to_four_children(self):
        for count in range(1, 5):
            for place in range(count):
                for on in range(2 ** count):
                    for good in range(2 ** count):
                        if not (on | good) & 2 ** place:
                            self.ask_all_ways(place, count, on, good)

    def test_many_children(self):
        for count in (3, 5, 62, 63, 64):
            for place in (0, 1, count // 2, count - 2, count - 1):
                others = 2 ** count - 1 - 2 ** place
                every_third = sum(2 ** other for other in range(0, count, 3)) & others
                for on in (0, others, every_third, others - every_third):
                    for good in (0, others, every_third, others - every_third):
                        self.ask_all_ways(place, count, on, good)

    def ask_all_ways(self, place, count, on, good):
        named_on = [other for other in range(count) if on & 2 ** other]
        named_good = [other for other in range(count) if good & 2 ** other]
        for way in self.ways:
            self.chooses(way, (place, count, on, good), asked_by_hand(way, place, count, named_on, named_good))

    def test_the_last_of_64_children(self):
        others = 2 ** 63 - 1
        self.chooses("one", (63, 64, others, 0), (0, 2 ** 63))
        self.chooses("all", (63, 64, others, 0), (others, 2 ** 64 - 1))
        self.chooses("all", (63, 64, others, others), (others, 2 ** 63))
        self.chooses("rest", (63, 64, others, 0), (0, 2 ** 63))

    def test_the_first_of_64_children(self):
        others = 2 ** 64 - 2
        self.chooses("one", (0, 64, others, 0), (0, 1))
        self.chooses("all", (0, 64, others, 0), (others, 2 ** 64 - 1))
        self.chooses("rest", (0, 64, others, 0), (others, 2 ** 64 - 1))
        self.chooses("rest", (0, 64, others, others), (others, 1))

    def test_the_same_question_twice_and_another_between(self):
        for way, pair, between in (("one", (0, 2), (0, 4)), ("all", (13, 11), (3, 15)), ("rest", (12, 10), (0, 12))):
            self.chooses(way, (1, 4, 13, 4), pair)
            self.chooses(way, (2, 4, 3, 0), between)
            self.chooses(way, (1, 4, 13, 4), pair)

    def test_the_bounds_tell_nothing_of_it(self):
        for kind, pair in ((Minder, (0, 2)), (AllMinder, (5, 7)), (RestMinder, (4, 6))):
            for keep in KEEPS:
                for most, span in ((0, 1), (MILLION, MILLION)):
                    self.assertEqual(kind("b", keep, most, span).chosen(1, 3, 5, 0), pair)


if __name__ == "__main__":
    unittest.main()
