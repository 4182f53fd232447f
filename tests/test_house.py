import inspect
import unittest

from house_case import HouseCase, leaf, minder, top, within
from minders.errors import MinderError, NoLeaf, NoName, NotOn
from minders.house import built
from minders.tree import read, written


class BegunTest(HouseCase):
    ROWS = (top(), leaf("a"), minder("m"), within(leaf("b")), within(minder("n")), within(within(leaf("c"))),
            within(leaf("d")), leaf("e"))

    def test_interface(self):
        self.begin(*self.ROWS)
        self.assertEqual(list(inspect.signature(built).parameters), ["tree"])
        for method, parameters in (("turn", []), ("trip", ["name"]), ("stop", []), ("doing", ["name"]), ("on", []),
                                   ("rows", [])):
            self.assertEqual(list(inspect.signature(getattr(self.house, method)).parameters), parameters)

    def test_all_are_begun_at_nought(self):
        self.begin(*self.ROWS)
        names = ["top", "a", "m", "b", "n", "c", "d", "e"]
        self.assertEqual(self.house.rows(), [(0, "begun", name) for name in names])
        self.assertEqual(self.house.on(), names)
        self.stands(top="on", a="on", m="on", b="on", n="on", c="on", d="on", e="on")

    def test_a_top_alone(self):
        self.begin(top())
        self.assertEqual(self.house.rows(), [(0, "begun", "top")])
        self.turns(3)
        self.stop("3 told top", "3 ended top")
        self.all_off()

    def test_kinds(self):
        self.begin(*self.ROWS)
        self.assertIs(type(self.house.rows()), list)
        self.assertIs(type(self.house.on()), list)
        for entry in self.house.rows():
            self.assertIs(type(entry), tuple)
            self.assertEqual([type(part) for part in entry], [int, str, str])

    def test_where_nothing_is_named_none_is_given_back(self):
        self.begin(*self.ROWS)
        self.assertIsNone(self.house.turn())
        self.assertIsNone(self.house.trip("a"))
        self.assertIsNone(self.house.stop())
        self.assertIsNone(self.house.turn())

    def test_a_second_stop_gives_back_none_too(self):
        self.begin(top(), leaf("a", grace=2, slow=2))
        self.house.stop()
        self.assertIsNone(self.house.stop())


class StepsTest(HouseCase):
    def test_an_idle_leaf_goes_on(self):
        self.begin(top(), leaf("a"))
        self.turns(200)
        self.stands(top="on", a="on")

    def test_many_of_nought(self):
        for work, word in (("steady 0", "done"), ("falls 0", "fallen")):
            self.begin(top(), leaf("a", work=work))
            self.turn(f"1 {word} a", "1 answers a", "1 begun a")
            self.turn(f"2 {word} a", "2 answers a", "2 begun a")

    def test_many_of_one(self):
        for work, word in (("steady 1", "done"), ("falls 1", "fallen")):
            self.begin(top(), leaf("a", work=work))
            self.turn()
            self.turn(f"2 {word} a", "2 answers a", "2 begun a")
            self.turn()
            self.turn(f"4 {word} a", "4 answers a", "4 begun a")

    def test_many_of_five(self):
        for work, word in (("steady 5", "done"), ("falls 5", "fallen")):
            self.begin(top(), leaf("a", work=work))
            self.turns(5)
            self.turn(f"6 {word} a", "6 answers a", "6 begun a")
            self.turns(5)
            self.turn(f"12 {word} a", "12 answers a", "12 begun a")

    def test_each_keep(self):
        again = {"always": ("done", "fallen"), "fallen": ("fallen",), "never": ()}
        for keep, words in again.items():
            for work, word in (("steady 1", "done"), ("falls 1", "fallen")):
                with self.subTest(keep=keep, work=work):
                    self.begin(top(), leaf("a", keep=keep, work=work), leaf("b"))
                    self.turn()
                    if word in words:
                        self.turn(f"2 {word} a", "2 answers a", "2 begun a")
                        self.stands(top="on", a="on", b="on")
                    else:
                        self.turn(f"2 {word} a")
                        self.stands(top="on", a="off", b="on")
                        self.turns(5)
                        with self.assertRaises(NotOn):
                            self.house.trip("a")

    def test_each_keep_of_a_tripped_leaf(self):
        for keep in ("always", "fallen"):
            self.begin(top(), leaf("a", keep=keep))
            self.trip("a", "0 fallen a", "0 answers a", "0 begun a")
        self.begin(top(), leaf("a", keep="never"))
        self.trip("a", "0 fallen a")
        self.stands(a="off", top="on")

    def test_steps_are_in_the_order_of_the_rows(self):
        self.begin(top(), minder("m"), within(leaf("a", work="falls 0")), leaf("b", work="steady 0"),
                   minder("n"), within(leaf("c", work="falls 0")))
        self.turn("1 fallen a", "1 answers a", "1 begun a", "1 done b", "1 answers b", "1 begun b",
                  "1 fallen c", "1 answers c", "1 begun c")

    def test_all_is_settled_behind_each_step(self):
        self.begin(top("rest"), leaf("a", keep="never", work="steady 0"), leaf("b", work="falls 0"),
                   leaf("c", work="falls 0"))
        # The third leaf is begun behind the second's step, so it has none at this turn.
        self.turn("1 done a", "1 fallen b", "1 answers b", "1 told c", "1 ended c", "1 begun b", "1 begun c")
        self.turn("2 fallen b", "2 answers b", "2 told c", "2 ended c", "2 begun b", "2 begun c")

    def test_a_leaf_begun_within_a_turn_has_no_step_at_it(self):
        self.begin(top("all"), leaf("a", work="falls 1"), leaf("b", work="steady 1"))
        both = ("answers a", "told b", "ended b", "begun a", "begun b")
        self.turn()
        self.turn("2 fallen a", *[f"2 {entry}" for entry in both])
        self.turn()
        self.turn("4 fallen a", *[f"4 {entry}" for entry in both])

    def test_a_leaf_begun_between_two_turns_has_its_step(self):
        self.begin(top(), leaf("a", work="falls 0"))
        self.trip("a", "0 fallen a", "0 answers a", "0 begun a")
        self.turn("1 fallen a", "1 answers a", "1 begun a")
        self.trip("a", "1 fallen a", "1 answers a", "1 begun a")
        self.turn("2 fallen a", "2 answers a", "2 begun a")

    def test_whoever_is_begun_has_done_no_steps(self):
        self.begin(top(), leaf("a", work="steady 3"))
        self.turns(2)
        self.trip("a", "2 fallen a", "2 answers a", "2 begun a")
        self.turns(3)
        self.turn("6 done a", "6 answers a", "6 begun a")

    def test_a_leaf_that_is_off_when_its_step_comes_has_none(self):
        self.begin(top(most=0), leaf("a", work="falls 0"), leaf("b", work="steady 0"))
        self.turn("1 fallen a", "1 gives up top", "1 told b", "1 ended b", "1 gave up top")
        self.all_off()


class RefusalTest(HouseCase):
    def refuses(self, kind, deed, *given):
        rows = self.house.rows()
        with self.assertRaises(MinderError) as caught:
            deed(*given)
        self.assertIs(type(caught.exception), kind)
        self.assertEqual(self.house.rows(), rows)

    def test_trip(self):
        self.begin(top(), leaf("a", keep="never"), minder("m", keep="never", most=0), within(leaf("b")))
        for name in ("", "x", "A", "Top", "a ", " a", "leaf"):
            self.refuses(NoName, self.house.trip, name)
        self.refuses(NoLeaf, self.house.trip, "top")
        self.refuses(NoLeaf, self.house.trip, "m")
        self.house.trip("a")
        self.refuses(NotOn, self.house.trip, "a")
        self.house.trip("b")
        self.refuses(NoLeaf, self.house.trip, "m")
        self.refuses(NotOn, self.house.trip, "b")

    def test_doing(self):
        self.begin(top(), leaf("a"))
        for name in ("", "x", "A", "Top", "a ", " a", "leaf"):
            self.refuses(NoName, self.house.doing, name)

    def test_stop(self):
        self.begin(top(), leaf("a"))
        self.house.stop()
        self.refuses(NotOn, self.house.stop)


class ApartTest(HouseCase):
    ROWS = (top("all"), leaf("a", work="falls 1"), leaf("b", grace=3, slow=3), minder("m"), within(leaf("c")))

    def test_new_lists_each_time(self):
        self.begin(*self.ROWS)
        rows = self.house.rows()
        names = self.house.on()
        self.assertIsNot(rows, self.house.rows())
        self.assertIsNot(names, self.house.on())
        rows.clear()
        names.append("x")
        self.assertEqual(len(self.house.rows()), 5)
        self.assertEqual(self.house.on(), ["top", "a", "b", "m", "c"])
        self.turn()
        self.assertEqual(rows, [])

    def test_a_list_given_back_stays_as_it_is(self):
        self.begin(*self.ROWS)
        rows = self.house.rows()
        names = self.house.on()
        self.house.stop()
        self.assertEqual(len(rows), 5)
        self.assertEqual(names, ["top", "a", "b", "m", "c"])

    def test_two_houses_of_one_tree(self):
        text = "\n".join(self.ROWS)
        tree = read(text)
        first = built(tree)
        second = built(tree)
        first.turn()
        first.trip("c")
        first.turn()
        self.assertEqual(second.rows(), [(0, "begun", name) for name in tree.names()])
        self.assertEqual(second.on(), tree.names())
        second.stop()
        self.assertEqual(first.doing("top"), "turning")
        self.assertEqual(second.doing("top"), "down")
        alone = built(read(text))
        alone.turn()
        alone.trip("c")
        alone.turn()
        self.assertEqual(first.rows(), alone.rows())
        self.assertEqual(written(tree), text)
        self.assertEqual(tree.names(), ["top", "a", "b", "m", "c"])
        self.assertEqual(built(tree).rows(), [(0, "begun", name) for name in tree.names()])

    def test_names_that_are_changed_change_no_house(self):
        tree = read("\n".join(self.ROWS))
        house = built(tree)
        tree.names().clear()
        self.assertEqual(house.on(), ["top", "a", "b", "m", "c"])
        self.assertEqual(house.doing("c"), "on")


class LargeTest(HouseCase):
    def test_sixty_four_rows(self):
        self.begin(top("all"), *[leaf(f"n{number}") for number in range(63)])
        names = [f"n{number}" for number in range(63)]
        put_away = [f"0 {word} {name}" for name in reversed(names[1:]) for word in ("told", "ended")]
        self.trip("n0", "0 fallen n0", "0 answers n0", *put_away, *[f"0 begun {name}" for name in names])

    def test_many_waiting(self):
        self.begin(top("rest"), *[leaf(f"n{number}") for number in range(62)], leaf("last", grace=1, slow=1))
        self.trip("n61", "0 fallen n61", "0 answers n61", "0 told last")
        for number in range(60, -1, -1):
            self.trip(f"n{number}", f"0 fallen n{number}")
        for clock in range(1, 63):
            self.house.turn()
        self.assertEqual([entry[2] for entry in self.house.rows() if entry[1] == "answers"],
                         [f"n{number}" for number in range(61, -1, -1)])
        self.assertEqual(len(self.house.on()), 64)

    def test_eight_minders_above(self):
        minders = [within("  " * depth + minder(f"m{depth}").strip()) for depth in range(7)]
        self.begin(top(), *minders, "  " * 8 + leaf("x").strip())
        names = ["top"] + [f"m{depth}" for depth in range(7)] + ["x"]
        self.stop(*[f"0 told {name}" for name in names], *[f"0 ended {name}" for name in reversed(names)])


if __name__ == "__main__":
    unittest.main()
