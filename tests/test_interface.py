"""The list that is handed in, the list that is given back, and what holds before a begin."""

import unittest

from signsumsdesk.signs import answers
from wording import MOST, NAMES, answered, last, listed, shown

GIVEN = {"begin": (1,), "eq": ([0, 1],), "drop": (0,), "change": (0, 0, 0), "allow": (0, 1), "turn": (0,),
         "sum": (1, 1), "product": (1, 1), "may": (0,), "all": (), "ways": (), "nth": (0,), "fits": ([0],),
         "why": ([0],), "spare": (0,), "spares": (), "det": (), "term": (), "minor": (0, 0), "solved": (0,),
         "solution": (), "look": (0,), "state": ()}


class Sealed(list):
    """A list that does not let itself be changed, not for a while either."""

    def refuse(self, *given):
        raise AssertionError("what is handed in was changed")

    append = extend = insert = pop = remove = clear = reverse = sort = refuse
    __setitem__ = __delitem__ = __iadd__ = __imul__ = refuse


class BeforeBegin(unittest.TestCase):
    def test_every_other_call_is_refused(self):
        for name in NAMES[1:]:
            with self.subTest(name):
                self.assertEqual(answered((name, *GIVEN[name])), [[-11]])

    def test_it_comes_ahead_of_every_other_refusal(self):
        for name in NAMES[1:]:
            given = tuple([MOST] * 255 if isinstance(number, list) else MOST for number in GIVEN[name])
            with self.subTest(name):
                self.assertEqual(answered((name, *given)), [[-11]])

    def test_calls_behind_one_another_are_kept_apart(self):
        calls = [(name, *GIVEN[name]) for name in NAMES[1:]]
        self.assertEqual(answered(*calls), [[-11]] * len(calls))
        self.assertEqual(answered(*reversed(calls)), [[-11]] * len(calls))

    def test_lists_of_every_length(self):
        for length in range(256):
            self.assertEqual(answered(("eq", [0] * length), ("ways",), ("why", [MOST] * length), ("all",)), [[-11]] * 4)

    def test_a_refused_begin_begins_nothing(self):
        for n in (0, 6, 7, MOST):
            calls = [("begin", n)] + [(name, *GIVEN[name]) for name in NAMES[1:]]
            self.assertEqual(answered(*calls), [[-22]] + [[-11]] * 22)

    def test_a_begin_after_refusals(self):
        self.assertEqual(answered(("ways",), ("begin", 0), ("ways",), ("begin", 1), ("ways",)),
                         [[-11], [-22], [-11], [0], [3]])


class Form(unittest.TestCase):
    def test_numbers_as_they_stand(self):
        calls = [9, 0, 0, 0, 2, 1, 3, 2, 0, 1, 9, 10, 11, 1, 8, 1, 3, 0, 2, 2, 6, 1, 4, 7, 1, 4, 4, 0, 3, 5, 0, 2, 0, 8, 2]
        self.assertEqual(answers(calls), [
            1, -11, 1, -22, 1, 0, 1, 0, 3, 0, 7, 7, 1, 3, 3, 2, 1, 1, 1, 7, 1, 1, 1, 7, 1, 1, 1, 7, 1, 1, 1, 0, 1, -2])

    def test_an_empty_list_is_given(self):
        self.assertEqual(answers([0, 1, 1, 0, 10]), [1, 0, 1, -22, 1, 3])

    def test_a_list_that_looks_like_calls(self):
        self.assertEqual(answers([0, 1, 1, 4, 10, 10, 0, 5, 10]), [1, 0, 1, -22, 1, 3])

    def test_sixty_calls(self):
        self.assertEqual(answered(("begin", 5), *[("ways",)] * 59), [[0]] + [[243]] * 59)

    def test_the_longest_list(self):
        handed = listed(*[("eq", [MOST] * 255)] * 60)
        self.assertEqual(len(handed), 15420)
        self.assertEqual(answers(handed), [1, -11] * 60)
        handed = listed(("begin", 5), *[("eq", [1] * 255)] * 58, ("ways",))
        self.assertEqual(answers(handed), [1, 0] + [1, -22] * 58 + [1, 243])

    def test_one_call(self):
        self.assertEqual(answers([0, 3]), [1, 0])
        self.assertEqual(answers([10]), [1, -11])

    def test_numbers_of_the_later_calls_as_they_stand(self):
        calls = [0, 2, 1, 3, 2, 2, 2, 1, 3, 0, 2, 1, 12, 2, 2, 2, 12, 0, 13, 2, 0, 0, 13, 2, 2, 2, 13, 1, 1,
                 14, 0, 14, 9, 15, 16, 17, 18, 1, 0, 18, 0, 2, 19, 0, 20, 21, 1, 21, 2, 22]
        self.assertEqual(answers(calls), [
            1, 0, 1, 0, 1, 1, 1, 1, 1, -22, 2, 1, 0, 1, -6, 1, -22, 1, 0, 1, -2, 1, 0, 3, 4, 2, 0, 3, 2, 0, 1, 1, 4, 1, -2,
            1, 4, 3, 2, 4, 4, 4, 3, 0, 2, 1, 1, -2, 4, 2, 2, 7, 7])

    def test_each_call_behind_a_begin(self):
        expected = {"fits": [1], "why": [-6], "spare": [-2], "spares": [0], "det": [-16], "term": [-16], "minor": [-2],
                    "solved": [-16], "solution": [-16], "look": [-2], "state": [1, 0, 7]}
        for name, numbers in expected.items():
            with self.subTest(name):
                self.assertEqual(answered(("begin", 1), (name, *GIVEN[name])), [[0], numbers])

    def test_all_kinds_in_any_order(self):
        calls = [(name, *GIVEN[name]) for name in NAMES]
        told = answered(*calls)
        self.assertEqual([len(numbers) for numbers in told][:12], [1, 1, 1, 1, 1, 1, 1, 1, 1, 2, 1, 2])
        self.assertEqual(told[12:], [[0], [0, 0], [-2], [0], [-16], [-16], [-2], [-16], [-16], [-2], [1, 0, 4]])
        told = answered(("begin", 1), *reversed(calls))
        self.assertEqual(told[:12], [[0], [1, 0, 7], [-2], [-16], [-16], [-2], [-16], [-16], [0], [-2], [-6], [1]])

    def test_sixty_calls_of_the_widest_table(self):
        calls = (("begin", 5), *[("eq", [2, 0, 2, 2, 0, 1])] * 5)
        for name, expected in (("spares", [5, 0, 1, 2, 3, 4]), ("det", [7, 60, 60]), ("solution", [-33]),
                               ("state", [5, 5, 7, 7, 7, 7, 7])):
            self.assertEqual(answered(*calls, *[(name,)] * 54)[6:], [expected] * 54)

    def test_whole_numbers_alone(self):
        handed = listed(("begin", 2), *[(name, *GIVEN[name]) for name in NAMES], ("begin", 2), ("eq", [2, 2, 0]),
                        ("drop", 0), ("all",), ("nth", 0), ("turn", 0), ("nth", MOST), ("eq", [2, 1, 0]), ("eq", [0, 0, 1]),
                        ("fits", [0, 2]), ("fits", [2, 2]), ("why", [2, 2]), ("why", [0, 2]), ("spare", 0), ("spares",),
                        ("det",), ("term",), ("minor", 0, 0), ("solved", 0), ("solution",), ("look", 0), ("state",))
        told = answers(handed)
        self.assertIs(type(told), list)
        self.assertEqual({type(number) for number in told}, {int})


class HandedIn(unittest.TestCase):
    CALLS = (("begin", 2), ("eq", [2, 0, 1]), ("eq", [2, 2, 2]), ("eq", [3, 3, 3]), ("change", 1, 2, 0), ("turn", 0),
             ("allow", 1, 3), ("all",), ("nth", 0), ("fits", [1, 1]), ("why", [2, 0]), ("fits", []), ("why", [3, 3]),
             ("spare", 0), ("spares",), ("det",), ("term",), ("minor", 0, 1), ("solved", 1), ("solution",), ("look", 1),
             ("state",), ("turn", 1), ("look", 1), ("drop", 0), ("begin", 9), ("begin", 1), ("ways",))

    def test_it_is_not_changed(self):
        handed = listed(*self.CALLS)
        kept = list(handed)
        answers(handed)
        self.assertEqual(handed, kept)

    def test_it_is_not_changed_for_a_while_either(self):
        self.assertEqual(answers(Sealed(listed(*self.CALLS))), answers(listed(*self.CALLS)))

    def test_what_is_given_back_is_not_what_is_handed_in(self):
        handed = listed(*self.CALLS)
        first = answers(handed)
        kept = list(first)
        first.clear()
        self.assertEqual(handed, listed(*self.CALLS))
        self.assertEqual(answers(handed), kept)

    def test_nothing_is_kept_from_one_time_to_the_next(self):
        first = answers(listed(*self.CALLS))
        self.assertEqual(answered(("ways",)), [[-11]])
        self.assertEqual(answered(("begin", 2), ("ways",)), [[0], [9]])
        self.assertEqual(answers(listed(*self.CALLS)), first)


class Refused(unittest.TestCase):
    """What's refused changes nothing."""

    FOUNDATION = (("begin", 2), ("eq", [2, 0, 1]), ("eq", [0, 0, 2]), ("eq", [1, 2, 0]), ("allow", 0, 5), ("allow", 1, 6))
    BEHIND = ([[2, 0, 1], [0, 0, 2], [1, 2, 0]], [5, 6])
    REFUSALS = ((("begin", 0), -22), (("begin", 6), -22), (("begin", MOST), -22), (("eq", []), -22), (("eq", [1, 1]), -22),
                (("eq", [1, 1, 3]), -22), (("eq", [1, 1, 1, 1]), -22), (("drop", 3), -2), (("drop", MOST), -2),
                (("change", 3, 0, 0), -2), (("change", 0, 3, 0), -2), (("change", 0, 0, 3), -22), (("change", 3, 3, 3), -2),
                (("allow", 2, 1), -2), (("allow", 0, 0), -22), (("allow", 1, 8), -22), (("allow", 2, 0), -2),
                (("turn", 2), -2), (("turn", MOST), -2), (("sum", 8, 0), -22), (("product", 0, 8), -22),
                (("may", 2), -2), (("may", 0), -33), (("all",), -33), (("nth", 0), -33), (("fits", []), -22),
                (("fits", [1]), -22), (("fits", [1, 3]), -22), (("fits", [1, 1, 1]), -22), (("fits", [1] * 255), -22),
                (("why", []), -22), (("why", [MOST, 0]), -22), (("why", [0, 0, 0]), -22), (("spare", 3), -2),
                (("spare", MOST), -2), (("det",), -16), (("term",), -16), (("minor", 0, 0), -16), (("minor", 3, 0), -2),
                (("minor", 0, 2), -2), (("solved", 0), -16), (("solved", 2), -2), (("solution",), -16), (("look", 3), -2),
                (("look", MOST), -2))

    def test_the_object_as_it_is(self):
        self.assertEqual(shown(2, 3, *self.FOUNDATION), self.BEHIND)
        self.assertEqual(last(*self.FOUNDATION, ("ways",)), [0])

    def test_each_refusal(self):
        for call, number in self.REFUSALS:
            with self.subTest(call):
                self.assertEqual(last(*self.FOUNDATION, call), [number])
                self.assertEqual(shown(2, 3, *self.FOUNDATION, call), self.BEHIND)
                self.assertEqual(last(*self.FOUNDATION, call, ("drop", 0)), [2])

    def test_refusals_of_a_square_table(self):
        calls = (("begin", 2), ("eq", [2, 2, 0]), ("eq", [2, 2, 0]), ("allow", 0, 6))
        for call, number in ((("solved", 0), -33), (("solved", 2), -2), (("solution",), -33), (("minor", 2, 0), -2),
                             (("minor", 0, 2), -2), (("why", [1, 0]), -6)):
            self.assertEqual(last(*calls, call), [number])
            self.assertEqual(shown(2, 2, *calls, call), ([[2, 2, 0], [2, 2, 0]], [6, 7]))
        calls = (("begin", 1), ("eq", [1, 2]))
        for call, number in ((("term",), -6), (("minor", 0, 0), -22), (("solved", 0), -33), (("solution",), -33)):
            self.assertEqual(last(*calls, call), [number])
            self.assertEqual(shown(1, 1, *calls, call), ([[1, 2]], [7]))

    def test_one_equation_too_many(self):
        calls = (("begin", 1), *[("eq", [2, 0])] * 5)
        self.assertEqual(last(*calls, ("eq", [0, 1])), [-28])
        self.assertEqual(shown(1, 5, *calls, ("eq", [0, 1])), ([[2, 0]] * 5, [7]))
        self.assertEqual(last(*calls, ("eq", [0, 1]), ("change", 5, 0, 0)), [-2])

    def test_asking_changes_nothing(self):
        asked = (("sum", 1, 4), ("product", 7, 7), ("may", 0), ("all",), ("ways",), ("nth", 0), ("nth", 1),
                 ("fits", [2, 2]), ("why", [2, 2]), ("why", [1, 2]), ("spare", 0), ("spares",), ("det",), ("term",),
                 ("minor", 0, 0), ("minor", 1, 1), ("solved", 0), ("solved", 1), ("solution",), ("look", 0), ("state",))
        self.assertEqual(shown(2, 3, *self.FOUNDATION, *asked), self.BEHIND)
        calls = (("begin", 2), ("eq", [2, 0, 1]), ("allow", 1, 6))
        self.assertEqual(shown(2, 1, *calls, *asked), ([[2, 0, 1]], [7, 6]))
        calls = (("begin", 2), ("eq", [2, 0, 1]), ("eq", [2, 2, 0]), ("allow", 0, 3))
        self.assertEqual(shown(2, 2, *calls, *asked), ([[2, 0, 1], [2, 2, 0]], [3, 7]))
        self.assertEqual(answered(*calls, *asked)[4:], answered(*calls, *asked, *asked)[4 + len(asked):])


if __name__ == "__main__":
    unittest.main()
