"""Point 9: Keeper."""

import unittest
from random import Random

from shortranks import keepers
from shortranks.errors import BadParts, BadRank, BadValue, Full, TooLong
from shortranks.keepers import Keeper
from tests import own_keeper
from tests.any_values import HUGE, any_values, error_class, is_integer, others
from tests.small_rows import has_places

# From both ends towards the middle: with twenty parts there are forty entries after 177 of these, and would
# be one more with the next one.
INWARDS = [number for place in range(100) for number in (place, 1000 - place)]
FILLING, ONE_MORE = INWARDS[:177], INWARDS[177]


def stand(keeper):
    """All that can be read off a keeper."""
    return (keeper.many, keeper.entries, len(keeper), [keeper.answer(rank) for rank in range(1, keeper.many + 1)])


def keeper_after(numbers, parts):
    keeper = Keeper(parts)
    for number in numbers:
        keeper.see(number)
    return keeper


def lots_of_numbers():
    """Two hundred numbers, in many ways."""
    chance = Random(9)
    yield list(range(200))
    yield list(range(200, 0, -1))
    yield [7] * 200
    yield [(-1) ** place * place for place in range(200)]
    yield [place % 10 for place in range(200)]
    yield [place * 73 % 200 for place in range(200)]
    yield [HUGE, -HUGE] * 100
    for greatest in (1, 5, 100, HUGE):
        yield [chance.randint(-greatest, greatest) for _ in range(200)]
    yield INWARDS[::-1]


class Examples(unittest.TestCase):

    def test_all(self):
        keeper = Keeper(2)
        self.assertEqual([keeper.see(5), keeper.see(3), keeper.see(8), keeper.see(6), keeper.entries, keeper.many,
                          keeper.answer(4)],
                         [1, 2, 2, 2, ((3, 1, 1), (8, 4, 4)), 4, 8])
        self.assertEqual([keeper.undo(), keeper.entries, len(keeper)], [True, ((3, 1, 1), (8, 3, 3)), 2])


class Parts(unittest.TestCase):

    def test_least_and_greatest(self):
        for parts in range(2, 21):
            self.assertEqual(stand(Keeper(parts)), (0, (), 0, []))

    def test_beyond_the_bounds(self):
        for parts in (1, 0, -1, -2, 21, 22, HUGE, -HUGE):
            self.assertIs(error_class(Keeper, parts), BadParts)

    def test_any_other_value(self):
        for parts in others(lambda value: is_integer(value) and 2 <= value <= 20):
            with self.subTest(parts=parts):
                self.assertIs(error_class(Keeper, parts), BadParts)


class Interface(unittest.TestCase):

    def test_all_stands_in_the_class_itself(self):
        for name in ("many", "entries"):
            self.assertIsInstance(vars(Keeper)[name], property)
        for name in ("__init__", "__len__", "see", "answer", "undo", "copy"):
            self.assertTrue(callable(vars(Keeper)[name]))
        self.assertIs(keepers.Keeper, Keeper)

    def test_kinds(self):
        keeper = keeper_after((5, 3, 8), 4)
        self.assertEqual([type(thing) for thing in (keeper.many, keeper.entries, len(keeper), keeper.answer(1),
                                                    keeper.see(4), keeper.undo(), keeper.copy(), Keeper(2).undo())],
                         [int, tuple, int, int, int, bool, Keeper, bool])
        for entry in keeper.entries:
            self.assertEqual((type(entry), [type(item) for item in entry]), (tuple, [int, int, int]))

    def test_equal_to_nothing_of_another_kind(self):
        keeper = Keeper(2)
        for other in others(lambda value: isinstance(value, Keeper)):
            self.assertFalse(keeper == other)
            self.assertTrue(keeper != other)


class Seeing(unittest.TestCase):

    def assert_entries(self, parts, numbers, entries):
        with self.subTest(parts=parts, numbers=numbers):
            keeper = keeper_after(numbers, parts)
            self.assertEqual((keeper.many, keeper.entries, len(keeper)), (len(numbers), entries, len(entries)))

    def test_the_first_number(self):
        for number in (0, 7, -7, HUGE, -HUGE):
            keeper = Keeper(20)
            self.assertEqual(keeper.see(number), 1)
            self.assertEqual(stand(keeper), (1, ((number, 1, 1),), 1, [number]))

    def test_all_are_kept_while_there_are_few(self):
        keeper = Keeper(20)
        numbers = [place * 7 % 19 for place in range(19)]
        self.assertEqual([keeper.see(number) for number in numbers], list(range(1, 20)))
        self.assertEqual(keeper.entries, tuple((number, number + 1, number + 1) for number in range(19)))

    def test_the_first_inner_one_is_left_out_first(self):
        # A number behind, less one before, that is at most 2 * 4 // 4: first of the second, then of no other.
        self.assert_entries(4, (1, 2, 3), ((1, 1, 1), (2, 2, 2), (3, 3, 3)))
        self.assert_entries(4, (1, 2, 3, 4), ((1, 1, 1), (3, 3, 3), (4, 4, 4)))
        self.assert_entries(4, (4, 3, 2, 1), ((1, 1, 1), (3, 3, 3), (4, 4, 4)))
        self.assert_entries(4, (1, 2, 3, 4, 5), ((1, 1, 1), (3, 3, 3), (5, 5, 5)))
        self.assert_entries(20, tuple(range(1, 21)), ((1, 1, 1),) + tuple((rank, rank, rank) for rank in
                                                                         range(3, 20, 2)) + ((20, 20, 20),))

    def test_a_number_between_has_the_ranks_of_those_beside_it(self):
        keeper = keeper_after((10, 20, 30, 40), 4)
        self.assertEqual(keeper.entries, ((10, 1, 1), (30, 3, 3), (40, 4, 4)))
        self.assertEqual(keeper.see(15), 4)
        self.assertEqual(keeper.entries, ((10, 1, 1), (15, 2, 3), (30, 4, 4), (40, 5, 5)))

    def test_equal_numbers(self):
        self.assert_entries(20, (5, 5, 5), ((5, 1, 1), (5, 2, 2), (5, 3, 3)))
        self.assert_entries(4, (5, 7, 5, 7), ((5, 1, 1), (7, 3, 3), (7, 4, 4)))
        self.assert_entries(2, (5,) * 200, ((5, 1, 1), (5, 200, 200)))

    def test_the_first_and_the_last_one_always_stay(self):
        for parts in (2, 3, 20):
            for numbers in lots_of_numbers():
                keeper = keeper_after(numbers, parts)
                self.assertEqual((keeper.entries[0], keeper.entries[-1]),
                                 ((min(numbers), 1, 1), (max(numbers), 200, 200)))

    def test_bad_value(self):
        for value in others(lambda value: is_integer(value) and -HUGE <= value <= HUGE) + [HUGE + 1, -HUGE - 1]:
            with self.subTest(value=value):
                for numbers in ((), (5,), (5, 3, 8), tuple(range(200))):
                    keeper = keeper_after(numbers, 4)
                    before = stand(keeper)
                    self.assertIs(error_class(keeper.see, value), BadValue)
                    self.assertEqual(stand(keeper), before)

    def test_two_hundred_numbers(self):
        for parts in (2, 20):
            keeper = keeper_after(range(200), parts)
            before = stand(keeper)
            self.assertEqual(before[0], 200)
            for number in (0, 7, 300, -1, HUGE, -HUGE):
                self.assertIs(error_class(keeper.see, number), TooLong)
                self.assertIs(error_class(keeper.copy().see, number), TooLong)
                self.assertEqual(stand(keeper), before)
            self.assertTrue(keeper.undo())
            self.assertEqual(keeper.see(199), len(keeper))
            self.assertEqual(stand(keeper), before)


class Filled(unittest.TestCase):

    def test_forty_entries_and_one_more(self):
        keeper = keeper_after(FILLING, 20)
        before = stand(keeper)
        self.assertEqual((before[0], before[2]), (177, 40))
        self.assertEqual(keeper.entries, own_keeper.entries_after(FILLING, 20))
        self.assertEqual(len(own_keeper.entries_after(FILLING + [ONE_MORE], 20)), 41)
        for _ in range(2):
            self.assertIs(error_class(keeper.see, ONE_MORE), Full)
            self.assertIs(error_class(keeper.copy().see, ONE_MORE), Full)
            self.assertEqual(stand(keeper), before)

    def test_entries_that_are_left_out_at_once_do_not_count(self):
        keeper = keeper_after(FILLING, 20)
        seen = {True: 0, False: 0}
        for number in range(-1, 1002, 3):
            expected = own_keeper.entries_after(FILLING + [number], 20)
            twin = keeper.copy()
            seen[len(expected) > 40] += 1
            if len(expected) > 40:
                self.assertIs(error_class(twin.see, number), Full)
            else:
                self.assertEqual((twin.see(number), twin.entries), (len(expected), expected))
        self.assertGreater(min(seen.values()), 0)

    def test_a_bad_value_comes_first(self):
        self.assertIs(error_class(keeper_after(FILLING, 20).see, None), BadValue)

    def test_after_the_error_it_goes_on(self):
        keeper = keeper_after(FILLING, 20)
        self.assertIs(error_class(keeper.see, ONE_MORE), Full)
        self.assertTrue(keeper.undo())
        self.assertEqual(keeper.entries, own_keeper.entries_after(FILLING[:-1], 20))
        self.assertEqual(keeper.see(FILLING[-1]), 40)
        self.assertEqual(keeper.entries, own_keeper.entries_after(FILLING, 20))

    def test_what_was_refused_was_not_seen(self):
        for parts in (18, 19, 20):
            keeper, numbers, refused = Keeper(parts), [], 0
            for number in INWARDS:
                entries = own_keeper.entries_after(numbers + [number], parts)
                if len(entries) > 40:
                    refused += 1
                    self.assertIs(error_class(keeper.see, number), Full)
                else:
                    numbers.append(number)
                    self.assertEqual((keeper.see(number), keeper.entries), (len(entries), entries))
            self.assertEqual((keeper.many, refused > 0), (len(numbers), parts == 20))


class Answering(unittest.TestCase):

    def test_bad_rank(self):
        keeper = keeper_after((5, 3, 8), 4)
        for rank in others(is_integer) + [0, -1, 4, HUGE, -HUGE]:
            with self.subTest(rank=rank):
                self.assertIs(error_class(keeper.answer, rank), BadRank)
        self.assertEqual([keeper.answer(rank) for rank in (1, 2, 3)], [3, 5, 8])

    def test_any_value_if_nothing_was_seen(self):
        keeper = keeper_after((5,), 4)
        self.assertTrue(keeper.undo())
        for rank in any_values():
            with self.subTest(rank=rank):
                self.assertIs(error_class(Keeper(4).answer, rank), BadRank)
                self.assertIs(error_class(keeper.answer, rank), BadRank)

    def test_the_first_of_equal_errors(self):
        keeper = keeper_after(range(1, 6), 2)
        self.assertEqual(keeper.entries, ((1, 1, 1), (5, 5, 5)))
        self.assertEqual([keeper.answer(rank) for rank in range(1, 6)], [1, 1, 1, 5, 5])

    def test_the_error_is_that_of_the_farther_end(self):
        keeper = keeper_after((10, 20, 30, 40, 15), 4)
        self.assertEqual(keeper.entries, ((10, 1, 1), (15, 2, 3), (30, 4, 4), (40, 5, 5)))
        self.assertEqual([keeper.answer(rank) for rank in range(1, 6)], [10, 10, 15, 30, 40])


class Undone(unittest.TestCase):

    def test_nothing_was_seen(self):
        keeper = Keeper(3)
        for _ in range(3):
            self.assertIs(keeper.undo(), False)
            self.assertEqual(stand(keeper), (0, (), 0, []))
        self.assertEqual(keeper.see(5), 1)

    def test_all_the_way_back(self):
        for parts in (2, 7, 20):
            for numbers in lots_of_numbers():
                keeper = Keeper(parts)
                stages = [stand(keeper)]
                for number in numbers[::5]:
                    keeper.see(number)
                    stages.append(stand(keeper))
                while stages[1:]:
                    self.assertEqual(stand(keeper), stages.pop())
                    self.assertIs(keeper.undo(), True)
                self.assertEqual(stand(keeper), stages[0])
                self.assertIs(keeper.undo(), False)

    def test_other_numbers_after_it(self):
        keeper = keeper_after((5, 3, 8), 4)
        keeper.undo()
        self.assertEqual((keeper.see(4), keeper.entries), (3, ((3, 1, 1), (4, 2, 2), (5, 3, 3))))
        keeper.undo()
        self.assertEqual(keeper.entries, ((3, 1, 1), (5, 2, 2)))


class Copied(unittest.TestCase):

    def test_it_stands_as_the_one_copied(self):
        for parts in (2, 4, 20):
            for numbers in ((), (5,), tuple(range(30))):
                keeper = keeper_after(numbers, parts)
                twin = keeper.copy()
                self.assertIsNot(twin, keeper)
                self.assertEqual(stand(twin), stand(keeper))
                for number in (7, 7, -3, 100, 8):
                    self.assertEqual(twin.see(number), keeper.see(number))
                    self.assertEqual(stand(twin), stand(keeper))
                for _ in range(len(numbers) + 6):
                    self.assertEqual(twin.undo(), keeper.undo())
                    self.assertEqual(stand(twin), stand(keeper))

    def test_independent(self):
        for change in (lambda keeper: keeper.see(6), lambda keeper: keeper.undo(),
                       lambda keeper: [keeper.undo() for _ in range(9)]):
            keeper = keeper_after((5, 3, 8), 4)
            twin = keeper.copy()
            before = stand(keeper)
            change(twin)
            self.assertEqual(stand(keeper), before)
            self.assertNotEqual(stand(twin), before)
            twin = keeper.copy()
            change(keeper)
            self.assertEqual(stand(twin), before)
            self.assertTrue(twin.undo())
            self.assertEqual(twin.entries, ((3, 1, 1), (5, 2, 2)))

    def test_entries_that_were_read_stay(self):
        keeper = keeper_after((5, 3, 8), 4)
        entries = keeper.entries
        keeper.see(1)
        keeper.undo()
        keeper.undo()
        self.assertEqual(entries, ((3, 1, 1), (5, 2, 2), (8, 3, 3)))


class StepByStep(unittest.TestCase):
    """Judged against the keeper of tests/own_keeper.py, and against the numbers themselves."""

    def judge(self, keeper, numbers, parts):
        entries = own_keeper.entries_after(numbers, parts)
        self.assertEqual((keeper.many, keeper.entries, len(keeper)), (len(numbers), entries, len(entries)))
        row = sorted(numbers)
        self.assertTrue(has_places(row, entries))
        most = max(1, 2 * len(numbers) // parts)
        for rank in range(1, len(numbers) + 1):
            value, error = own_keeper.answer(entries, rank)
            self.assertEqual(keeper.answer(rank), value)
            self.assertLessEqual(error, most)
            self.assertIn(value, row[max(0, rank - 1 - error):rank + error])

    def test_after_each_number(self):
        for parts in (2, 3, 5, 10, 19, 20):
            for numbers in list(lots_of_numbers())[parts % 3::3]:
                keeper = Keeper(parts)
                for many, number in enumerate(numbers, start=1):
                    self.assertEqual(keeper.see(number), len(keeper))
                    if many < 45 or many % 20 == 0:
                        with self.subTest(parts=parts, numbers=numbers[:many]):
                            self.judge(keeper, numbers[:many], parts)

    def test_all_parts_at_the_end(self):
        for parts in range(2, 21):
            for numbers in lots_of_numbers():
                with self.subTest(parts=parts, numbers=numbers):
                    self.judge(keeper_after(numbers, parts), numbers, parts)

    def test_seen_taken_back_and_copied(self):
        chance = Random(17)
        for turn in range(40):
            parts = chance.randint(2, 20)
            pairs = [(Keeper(parts), [])]
            for step in range(60):
                keeper, numbers = chance.choice(pairs)
                what = chance.choice(("see", "see", "see", "see", "undo", "copy", "bad"))
                if what == "see":
                    numbers.append(chance.randint(-9, 9) if turn % 2 else chance.randint(-HUGE, HUGE))
                    keeper.see(numbers[-1])
                elif what == "undo":
                    self.assertIs(keeper.undo(), bool(numbers))
                    del numbers[-1:]
                elif what == "bad":
                    self.assertIs(error_class(keeper.see, HUGE + 1), BadValue)
                elif len(pairs) < 4:
                    pairs.append((keeper.copy(), list(numbers)))
                if step % 6 == 0:
                    for keeper, numbers in pairs:
                        with self.subTest(parts=parts, numbers=numbers):
                            self.judge(keeper, numbers, parts)

    def test_forty_entries(self):
        for many in range(150, 178):
            self.judge(keeper_after(INWARDS[:many], 20), INWARDS[:many], 20)


if __name__ == "__main__":
    unittest.main()
