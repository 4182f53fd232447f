import inspect
import unittest

from minders.spans import recent, too_many

BILLION = 10 ** 9
RISING = list(range(40, 100))
FALLING = RISING[::-1]
MIXED = [40 + (place * 37) % 60 for place in range(60)]


class SpanTest(unittest.TestCase):
    def finds(self, found, falls, clock, span):
        before = list(falls)
        given = recent(falls, clock, span)
        self.assertIs(type(given), list)
        self.assertIsNot(given, falls)
        self.assertEqual(given, found)
        self.assertEqual(falls, before)

    def judged(self, answer, falls, clock, span, most):
        before = list(falls)
        self.assertIs(too_many(falls, clock, span, most), answer)
        self.assertEqual(falls, before)


class RecentTest(SpanTest):
    def test_interface(self):
        self.assertEqual(list(inspect.signature(recent).parameters), ["falls", "clock", "span"])
        self.assertEqual(recent(falls=[7], clock=7, span=1), [7])

    def test_no_turns(self):
        for span in (1, 2, 1000000):
            self.finds([], [], 0, span)
            self.finds([], [], 7, span)

    def test_turns_about_the_span(self):
        for clock, span in ((10, 1), (10, 2), (10, 5), (10, 10), (10, 9), (1000000, 999), (BILLION, 1000000)):
            with self.subTest(clock=clock, span=span):
                self.finds([clock], [clock], clock, span)
                self.finds([clock - span + 1], [clock - span + 1], clock, span)
                self.finds([], [clock - span], clock, span)
                self.finds([], [clock - span - 1], clock, span)
                self.finds([clock - span + 1, clock],
                           [clock - span - 1, clock - span, clock - span + 1, clock], clock, span)

    def test_a_span_of_one_is_this_turn_alone(self):
        self.finds([9], [6, 7, 8, 9], 9, 1)
        self.finds([], [6, 7, 8], 9, 1)
        self.finds([9, 9], [9, 8, 9], 9, 1)

    def test_a_span_beyond_the_first_turn(self):
        self.finds([0, 1, 2, 3], [0, 1, 2, 3], 3, 4)
        self.finds([1, 2, 3], [0, 1, 2, 3], 3, 3)
        self.finds([0, 1, 2, 3], [0, 1, 2, 3], 3, 1000000)
        self.finds([0], [0], 0, 1)

    def test_one_turn_several_times(self):
        self.finds([5, 5, 5], [5, 5, 5], 6, 2)
        self.finds([], [5, 5, 5], 7, 2)
        self.finds([6, 7, 6, 7], [5, 6, 5, 7, 6, 7, 5], 7, 2)

    def test_they_stay_in_their_order(self):
        self.finds([3, 4, 5], [1, 2, 3, 4, 5], 5, 3)
        self.finds([5, 4, 3], [5, 4, 3, 2, 1], 5, 3)
        self.finds([4, 3, 5, 3], [4, 1, 3, 5, 2, 3], 5, 3)

    def test_some_sixty_turns(self):
        for falls in (RISING, FALLING, MIXED):
            for clock in (99, 100, 130, 200):
                for span in (1, 2, 30, 60, 61, 100, 101, 102):
                    found = [turn for turn in falls if turn in range(clock - span + 1, clock + 1)]
                    self.finds(found, falls, clock, span)

    def test_great_turns(self):
        falls = [BILLION - 3, BILLION, BILLION - 1000000, BILLION - 999999, BILLION - 2]
        self.finds([BILLION], falls, BILLION, 1)
        self.finds([BILLION, BILLION - 2], falls, BILLION, 3)
        self.finds([BILLION - 3, BILLION, BILLION - 999999, BILLION - 2], falls, BILLION, 1000000)
        self.finds([], falls, 2 * BILLION, 1000000)

    def test_each_list_given_back_is_a_new_one(self):
        falls = [7, 8, 9]
        first = recent(falls, 9, 3)
        second = recent(falls, 9, 3)
        self.assertIsNot(first, second)
        first.append(100)
        first[0] = 50
        self.assertEqual(falls, [7, 8, 9])
        self.assertEqual(second, [7, 8, 9])
        self.finds([7, 8, 9], falls, 9, 3)
        nobody = recent([], 9, 3)
        nobody.append(9)
        self.finds([], [], 9, 3)

    def test_a_changed_list_is_asked_anew(self):
        falls = [7, 8, 9]
        self.finds([8, 9], falls, 9, 2)
        falls.append(9)
        self.finds([8, 9, 9], falls, 9, 2)


class TooManyTest(SpanTest):
    def test_interface(self):
        self.assertEqual(list(inspect.signature(too_many).parameters), ["falls", "clock", "span", "most"])
        self.assertIs(too_many(falls=[7], clock=7, span=1, most=1), True)

    def test_no_turns(self):
        self.judged(True, [], 7, 5, 0)
        self.judged(False, [], 7, 5, 1)
        self.judged(False, [], 7, 5, 1000000)
        self.judged(True, [], 0, 1, 0)

    def test_a_bound_of_nought_is_always_gone_beyond(self):
        self.judged(True, [1], 7, 5, 0)
        self.judged(True, [7], 7, 1, 0)

    def test_this_end_is_counted_with_those(self):
        self.judged(False, [5, 6], 7, 3, 3)
        self.judged(True, [5, 6], 7, 3, 2)
        self.judged(True, [5, 6, 7], 7, 3, 3)
        self.judged(False, [5, 6, 7], 7, 3, 4)

    def test_those_too_long_ago_are_not_counted(self):
        self.judged(False, [4], 7, 3, 1)
        self.judged(False, [3], 7, 3, 1)
        self.judged(True, [5], 7, 3, 1)
        self.judged(True, [7], 7, 3, 1)
        self.judged(False, [1, 2, 3, 4, 5], 7, 3, 2)
        self.judged(True, [1, 2, 3, 4, 5], 7, 3, 1)

    def test_a_span_of_one(self):
        self.judged(False, [6, 6, 6], 7, 1, 1)
        self.judged(True, [7, 6, 6], 7, 1, 1)
        self.judged(False, [7, 6, 7], 7, 1, 3)
        self.judged(True, [7, 6, 7], 7, 1, 2)

    def test_one_turn_several_times_is_counted_as_often(self):
        self.judged(False, [7, 7, 7], 7, 2, 4)
        self.judged(True, [7, 7, 7], 7, 2, 3)

    def test_whatever_their_order(self):
        for falls in ([1, 4, 5, 6], [6, 5, 4, 1], [5, 1, 6, 4], [4, 6, 1, 5]):
            with self.subTest(falls=falls):
                self.judged(False, falls, 6, 3, 4)
                self.judged(True, falls, 6, 3, 3)

    def test_some_sixty_turns(self):
        for falls in (RISING, FALLING, MIXED):
            self.judged(False, falls, 99, 60, 61)
            self.judged(True, falls, 99, 60, 60)
            self.judged(False, falls, 99, 59, 60)
            self.judged(True, falls, 99, 59, 59)
            self.judged(False, falls, 99, 60, 1000000)

    def test_great_turns(self):
        falls = [BILLION - 1000000, BILLION - 999999, BILLION - 1, BILLION]
        self.judged(False, falls, BILLION, 1000000, 4)
        self.judged(True, falls, BILLION, 1000000, 3)
        self.judged(False, falls, BILLION, 1, 2)
        self.judged(True, falls, BILLION, 1, 1)

    def test_a_bound_of_a_million(self):
        falls = [5] * 999999
        self.judged(False, falls, 5, 1, 1000000)
        falls.append(5)
        self.judged(True, falls, 5, 1, 1000000)
        self.judged(False, falls, 6, 1, 1000000)

    def test_the_same_question_twice_and_another_between(self):
        falls = [5, 6]
        self.judged(True, falls, 7, 3, 2)
        self.judged(False, falls, 9, 3, 2)
        self.judged(True, falls, 7, 3, 2)


if __name__ == "__main__":
    unittest.main()
