"""What the tests of the calls share."""

import itertools

TOP = 4294967295

# The first of these must stand on lane 1 of three, between two that change.
FIRST_BETWEEN_OTHERS = [1, 2, 1, 0, 1, 2, 1, 3, 1, 0, 2, 1, 2, 3, 2]

# Each of these is refused by every call that is handed bookings.
WRONG_BOOKINGS = {
    "not three numbers for each booking": (
        [0], [0, 1], [0, 1, 1, 1], [0, 1, 1, 1, 2], [0, 1, 1] * 5 + [0, 1], [0] * 23,
    ),
    "more than six bookings": ([0, 1, 1] * 7, [0, 1, 1] * 8, [3, 5, 2] * 7),
    "an hour that is not less than the one up to which": (
        [5, 5, 1], [6, 5, 1], [0, 0, 1], [12, 12, 1], [12, 0, 1], [TOP, 5, 1], [TOP, TOP, 1],
    ),
    "an hour above twelve": ([0, 13, 1], [11, 13, 1], [12, 13, 1], [13, 14, 1], [0, TOP, 1]),
    "a width of nothing or above eight": ([0, 1, 0], [11, 12, 0], [0, 1, 9], [0, 12, 9], [0, 1, TOP]),
    "one wrong booking among others": tuple(
        [0, 1, 1] * place + wrong + [0, 1, 1] * (5 - place)
        for wrong in ([5, 5, 1], [0, 13, 1], [0, 1, 0], [0, 1, 9])
        for place in range(6)
    ),
}


def refuse_change(self, *args, **kwargs):
    raise AssertionError("what was handed in was changed")


class Unchanging(list):
    """A list that can't be changed, so that a change that's taken back is seen too."""

    append = clear = extend = insert = pop = remove = reverse = sort = refuse_change
    __setitem__ = __delitem__ = __iadd__ = __imul__ = refuse_change


def in_threes(bookings):
    """The bookings one by one: each its hour, the one up to which, how wide."""
    return [tuple(bookings[at:at + 3]) for at in range(0, len(bookings), 3)]


def in_a_row(threes):
    """The bookings as they are handed in."""
    return [number for three in threes for number in three]


def asked_for_by_counting(bookings):
    """How many lanes are asked for in each of the twelve hours."""
    return [
        sum(wide for begin, end, wide in in_threes(bookings) if hour in range(begin, end))
        for hour in range(12)
    ]


def peak_by_counting(bookings):
    """The most lanes that are asked for in an hour."""
    return max(asked_for_by_counting(bookings))


def is_right_by_cells(lanes, bookings, firsts):
    """Whether the way is right, found by marking every lane in every hour."""
    taken = set()
    for (begin, end, wide), first in zip(in_threes(bookings), firsts, strict=True):
        for cell in itertools.product(range(begin, end), range(first, first + wide)):
            if cell in taken or cell[1] >= lanes:
                return False
            taken.add(cell)
    return True


def first_way_by_trying(lanes, bookings):
    """The first lanes of the first right way, found by trying all in their order; None if there's none."""
    for firsts in itertools.product(range(lanes), repeat=len(bookings) // 3):
        if is_right_by_cells(lanes, bookings, firsts):
            return list(firsts)
    return None


class EachCallByItself:
    """What holds of every call: a TestCase beside it tells the call and its CALLS.

    CALLS are pairs: what is handed in, with tuples for lists, and the answer.
    """

    call = None
    CALLS = ()

    def with_lists(self, values, make=list):
        return [make(value) if isinstance(value, tuple) else value for value in values]

    def test_what_is_handed_in_stays_as_it_was(self):
        for values, answer in self.CALLS:
            with self.subTest(values=values):
                handed = self.with_lists(values)
                self.assertEqual(self.call(*handed), answer)
                self.assertEqual(handed, self.with_lists(values))

    def test_what_is_handed_in_is_not_changed_for_a_while_either(self):
        for values, answer in self.CALLS:
            with self.subTest(values=values):
                self.assertEqual(self.call(*self.with_lists(values, Unchanging)), answer)

    def test_a_second_call_answers_the_same(self):
        answers = [answer for values, answer in self.CALLS]
        once = [self.call(*self.with_lists(values)) for values, answer in self.CALLS]
        again = [self.call(*self.with_lists(values)) for values, answer in self.CALLS]
        self.assertEqual(once, answers)
        self.assertEqual(again, answers)

    def test_a_second_call_with_the_same_lists(self):
        for values, answer in self.CALLS:
            with self.subTest(values=values):
                handed = self.with_lists(values)
                self.assertEqual(self.call(*handed), answer)
                self.assertEqual(self.call(*handed), answer)

    def test_an_answer_that_is_changed_does_not_change_the_next(self):
        for values, answer in self.CALLS:
            with self.subTest(values=values):
                handed = self.with_lists(values)
                self.call(*handed).append(7)
                self.assertEqual(self.call(*handed), answer)

    def test_the_answer_is_a_list_of_whole_numbers(self):
        for values, _ in self.CALLS:
            with self.subTest(values=values):
                answer = self.call(*self.with_lists(values))
                self.assertIs(type(answer), list)
                self.assertEqual({type(number) for number in answer}, {int})
