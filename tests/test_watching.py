"""Observers of heights and of pushes: points 13, 14 and 1."""

import itertools
import random
import unittest

from samples import WRONG_SIDES, WRONG_STONES, all_pushes, all_rows, felled, mixed_rows, tumble

from rowdominoes.errors import Contradiction, InvalidNumber, InvalidSide, UnknownStone
from rowdominoes.rows import Row
from rowdominoes.runs import first_unlike_push
from rowdominoes.watching import HeightObserver, PushObserver

FAR = 10 ** 9
FIVE = Row((0, 2), (2, 1), (5, 4), (6, 1), (9, 1))
CHAIN = Row.even(5, 2, 2)
LONGEST = Row.even(40, 1, 1)
WRONG_NUMBERS = (True, False, None, "", "1", "left", [], [1], (), (1,), -1, -FAR)


class PlainHeightObserver:
    """An observer who tries a height of each span of heights that hit the same stones."""

    def __init__(self, row, stone):
        distances = [abs(place - row.places[stone]) for place in row.places if place != row.places[stone]]
        starts = sorted({1, *distances})
        self.spans = list(zip(starts, [start - 1 for start in starts[1:]] + [FAR]))
        self.row = row
        self.stone = stone

    def stones_with(self, height):
        stones = list(self.row.stones)
        stones[self.stone] = (stones[self.stone][0], height)
        return stones

    def run(self, span, stone, side):
        return felled(self.stones_with(span[0]), stone, side)

    def spans_after(self, stone, side, count):
        return [span for span in self.spans if len(self.run(span, stone, side)) == count]

    def heights(self):
        return sum(last - first + 1 for first, last in self.spans)

    def telling(self):
        return [push for push in all_pushes(self.row)
                if any(self.run(span, *push) != self.run(self.spans[0], *push) for span in self.spans)]


def seen_height(observer):
    return [observer.height_range, observer.observations, observer.telling_pushes()]


class HeightExamplesTest(unittest.TestCase):

    def test_unknown_stone(self):
        with self.assertRaises(UnknownStone):
            HeightObserver(FIVE, 5)

    def test_see_run(self):
        observer = HeightObserver(FIVE, 2)
        found = [observer.see_run(3, "left", 3), observer.height_range, observer.telling_pushes()]
        self.assertEqual(found, [2, (3, 4), [(2, "right")]])

    def test_contradiction(self):
        with self.assertRaises(Contradiction):
            HeightObserver(FIVE, 2).see_run(4, "left", 2)


class HeightObserverTest(unittest.TestCase):

    def assert_alike(self, observer, other):
        first, last = other.spans[0][0], other.spans[-1][1]
        self.assertEqual(observer.height_range, (first, last))
        self.assertEqual(other.heights(), last - first + 1)
        self.assertEqual(observer.telling_pushes(), other.telling())

    def assert_seen(self, observer, other, stone, side, count):
        """Let both observers see a run, and compare what they know then."""
        before = seen_height(observer)
        spans = other.spans_after(stone, side, count)
        if spans:
            other.spans = spans
            self.assertEqual(observer.see_run(stone, side, count), other.heights())
            self.assertEqual(observer.observations, before[1] + [(stone, side, count)])
            self.assert_alike(observer, other)
        else:
            with self.assertRaises(Contradiction):
                observer.see_run(stone, side, count)
            self.assertEqual(seen_height(observer), before)

    def test_at_first_all_heights_are_possible(self):
        for row in (FIVE, CHAIN, Row((7, 3))):
            for stone in range(len(row)):
                observer = HeightObserver(row, stone)
                self.assertEqual([observer.height_range, observer.observations], [(1, FAR), []])

    def test_a_single_run_against_all_heights(self):
        rows = [row for count in range(1, 4) for row in all_rows(count, (1, 2, 3), (1, 2, 4))]
        for row in rows + list(mixed_rows(40, 7, 41)):
            for stone in range(len(row)):
                for push in all_pushes(row):
                    for count in range(1, len(row) + 1):
                        with self.subTest(stones=row.stones, stone=stone, push=push, count=count):
                            observer, other = HeightObserver(row, stone), PlainHeightObserver(row, stone)
                            self.assert_seen(observer, other, *push, count)

    def test_each_single_height(self):
        for row in mixed_rows(40, 6, 42):
            for stone in range(len(row)):
                heights = range(1, row.places[-1] - row.places[0] + 3)
                rows = {height: row.with_height(stone, height).stones for height in heights}
                for push in all_pushes(row):
                    counts = {height: len(felled(rows[height], *push)) for height in heights}
                    for count in set(counts.values()):
                        observer = HeightObserver(row, stone)
                        observer.see_run(*push, count)
                        least, greatest = observer.height_range
                        self.assertEqual([height for height in heights if counts[height] == count],
                                         [height for height in heights if least <= height <= greatest])

    def test_several_runs_against_all_heights(self):
        chance = random.Random(43)
        for row in mixed_rows(120, 10, 44):
            if len(row) == 0:
                continue
            stone = chance.randrange(len(row))
            observer, other = HeightObserver(row, stone), PlainHeightObserver(row, stone)
            self.assert_alike(observer, other)
            true = other.stones_with(chance.randint(1, 20))
            for _ in range(12):
                push = chance.choice(all_pushes(row))
                count = len(felled(true, *push)) if chance.random() < 0.6 else chance.randint(1, len(row))
                with self.subTest(stones=row.stones, stone=stone, push=push, count=count):
                    self.assert_seen(observer, other, *push, count)

    def test_the_height_in_the_row_does_not_matter(self):
        for height in (1, 2, 3, 4, 9, FAR):
            observer = HeightObserver(FIVE.with_height(2, height), 2)
            found = [observer.telling_pushes(), observer.see_run(3, "left", 3), observer.see_run(2, "right", 3)]
            self.assertEqual(found, [HeightObserver(FIVE, 2).telling_pushes(), 2, 1])
            self.assertEqual(observer.height_range, (4, 4))

    def test_places_at_the_ends(self):
        row = Row((0, 1), (FAR, 1))
        observer = HeightObserver(row, 0)
        self.assertEqual(observer.telling_pushes(), [(0, "right")])
        self.assertEqual([observer.see_run(0, "right", 1), observer.height_range], [FAR - 1, (1, FAR - 1)])
        observer = HeightObserver(row, 1)
        self.assertEqual([observer.see_run(1, "left", 2), observer.height_range], [1, (FAR, FAR)])
        self.assertEqual(observer.telling_pushes(), [])

    def test_counts_that_no_height_brings_about(self):
        row = Row((0, 1), (4, 2), (6, 1), (9, 1))
        for count, heights in ((1, (1, 3)), (3, (4, 8)), (4, (9, FAR))):
            observer = HeightObserver(row, 0)
            self.assertEqual(observer.see_run(0, "right", count), heights[1] - heights[0] + 1)
            self.assertEqual(observer.height_range, heights)
        with self.assertRaises(Contradiction):
            HeightObserver(row, 0).see_run(0, "right", 2)
        with self.assertRaises(Contradiction):
            HeightObserver(row, 0).see_run(0, "left", 2)
        with self.assertRaises(Contradiction):
            HeightObserver(row, 0).see_run(3, "right", 4)

    def test_runs_that_tell_nothing_new(self):
        observer = HeightObserver(FIVE, 2)
        self.assertEqual(observer.see_run(0, "left", 1), FAR)
        self.assertEqual([observer.see_run(3, "left", 3) for _ in range(3)], [2, 2, 2])
        self.assertEqual(observer.observations, [(0, "left", 1)] + [(3, "left", 3)] * 3)

    def test_rows_of_one_and_of_40_stones(self):
        observer = HeightObserver(Row((7, 3)), 0)
        self.assertEqual([observer.telling_pushes(), observer.see_run(0, "left", 1)], [[], FAR])
        observer = HeightObserver(LONGEST, 0)
        self.assertEqual([observer.see_run(0, "right", 40), observer.telling_pushes()], [FAR, []])
        observer = HeightObserver(Row.even(40, 2, 1), 20)
        self.assertEqual(observer.telling_pushes(), [(20, "left"), (20, "right")])
        self.assertEqual([observer.see_run(20, "left", 21), observer.height_range], [FAR - 39, (40, FAR)])
        self.assertEqual(observer.telling_pushes(), [])

    def test_telling_pushes_are_those_with_unlike_runs(self):
        for row in mixed_rows(60, 8, 45):
            for stone in range(len(row)):
                pushes = HeightObserver(row, stone).telling_pushes()
                unlike = first_unlike_push(row.with_height(stone, 1), row.with_height(stone, FAR))
                self.assertEqual(pushes[:1], [] if unlike is None else [unlike])


class HeightErrorsTest(unittest.TestCase):

    def test_unknown_hidden_stones(self):
        for stone in WRONG_STONES + (5,):
            with self.subTest(stone=stone), self.assertRaises(UnknownStone):
                HeightObserver(FIVE, stone)
        for stone in (0, -1, None):
            with self.assertRaises(UnknownStone):
                HeightObserver(Row(), stone)

    def test_stones_ahead_of_sides_ahead_of_numbers(self):
        observer = HeightObserver(FIVE, 2)
        for stone in WRONG_STONES + (5,):
            for side, count in (("left", 1), ("up", 1), (None, None), ("left", 9)):
                with self.subTest(stone=stone, side=side, count=count), self.assertRaises(UnknownStone):
                    observer.see_run(stone, side, count)
        for side in WRONG_SIDES:
            for count in (1, 0, None):
                with self.subTest(side=side, count=count), self.assertRaises(InvalidSide):
                    observer.see_run(4, side, count)
        for count in WRONG_NUMBERS + (0, 6, 40, 10 ** 20):
            for stone, side in ((0, "left"), (2, "right"), (4, "left")):
                with self.subTest(stone=stone, side=side, count=count), self.assertRaises(InvalidNumber):
                    observer.see_run(stone, side, count)
        self.assertEqual(seen_height(observer), seen_height(HeightObserver(FIVE, 2)))

    def test_errors_change_nothing(self):
        observer = HeightObserver(FIVE, 2)
        observer.see_run(3, "left", 3)
        before = seen_height(observer)
        for arguments, error in (((5, "left", 1), UnknownStone), ((0, "up", 1), InvalidSide),
                                 ((0, "left", 0), InvalidNumber), ((0, "left", 2), Contradiction),
                                 ((3, "left", 4), Contradiction), ((2, "left", 1), Contradiction)):
            with self.subTest(arguments=arguments), self.assertRaises(error):
                observer.see_run(*arguments)
            self.assertEqual(seen_height(observer), before)
        self.assertEqual(observer.see_run(2, "right", 2), 1)


class HeightValuesTest(unittest.TestCase):

    def test_returned_lists_may_be_modified(self):
        observer = HeightObserver(FIVE, 2)
        observer.see_run(3, "left", 3)
        before = seen_height(observer)
        observer.observations.clear()
        observer.telling_pushes().append((0, "left"))
        self.assertEqual(seen_height(observer), before)

    def test_observers_share_nothing(self):
        observer, other = HeightObserver(FIVE, 2), HeightObserver(FIVE, 2)
        observer.see_run(3, "left", 3)
        self.assertEqual([other.height_range, other.observations], [(1, FAR), []])
        self.assertEqual(FIVE.stones, ((0, 2), (2, 1), (5, 4), (6, 1), (9, 1)))

    def test_kinds_of_values(self):
        observer = HeightObserver(FIVE, 2)
        observer.see_run(3, "left", 3)
        self.assertIsInstance(observer.height_range, tuple)
        self.assertEqual([tuple] * 2, [type(found) for found in observer.observations + observer.telling_pushes()])

    def test_properties_are_not_assigned(self):
        for name in ("height_range", "observations"):
            with self.assertRaises(AttributeError):
                setattr(HeightObserver(FIVE, 2), name, [])


class PlainPushObserver:
    """An observer who makes all pushes anew for each observation."""

    def __init__(self, row):
        self.row = row
        self.pushes = all_pushes(row)

    def ticks(self, push):
        return tumble(self.row.stones, range(len(self.row)), *push)

    def pushes_after(self, name, stone, seen):
        if name == "see_stone":
            return [push for push in self.pushes if (stone in self.ticks(push)) is seen]
        return [push for push in self.pushes if self.ticks(push).get(stone, "never") == seen]

    def best_stone(self):
        """By a try of both cases for each stone."""
        best = None
        for stone in range(len(self.row)):
            worse = max(len(self.pushes_after("see_stone", stone, seen)) for seen in (True, False))
            if best is None or worse < best[0]:
                best = (worse, stone)
        return best and best[1]


def seen_push(observer):
    return [observer.candidates, observer.observations, len(observer), observer.best_stone()]


class PushExamplesTest(unittest.TestCase):

    def test_see_stone_and_see_tick(self):
        observer = PushObserver(FIVE)
        found = [len(observer), observer.see_stone(1, True), observer.see_tick(1, 2), observer.candidates]
        self.assertEqual(found, [10, 5, 1, [(3, "left")]])
        with self.assertRaises(Contradiction):
            PushObserver(FIVE).see_tick(0, 1)

    def test_from_log(self):
        other = PushObserver.from_log(FIVE, ("see_tick", 4, 0))
        self.assertEqual([other.candidates, (4, "left") in other], [[(4, "left"), (4, "right")], True])

    def test_candidates_and_observations(self):
        observer = PushObserver(FIVE)
        observer.see_stone(0, True)
        self.assertEqual(observer.candidates, [(0, "left"), (0, "right")])
        self.assertEqual(observer.observations, [("see_stone", 0, True)])

    def test_best_stone(self):
        self.assertEqual(PushObserver(FIVE).best_stone(), 1)


class PushObserverTest(unittest.TestCase):

    def assert_alike(self, observer, other):
        self.assertEqual([observer.candidates, len(observer)], [other.pushes, len(other.pushes)])
        self.assertEqual(observer.best_stone(), other.best_stone())
        for push in all_pushes(other.row):
            self.assertIs(push in observer, push in other.pushes)

    def assert_seen(self, observer, other, name, stone, seen):
        """Let both observers see something, and compare what they know then."""
        before = seen_push(observer)
        pushes = other.pushes_after(name, stone, seen)
        if pushes:
            other.pushes = pushes
            self.assertEqual(getattr(observer, name)(stone, seen), len(pushes))
            self.assertEqual(observer.observations, before[1] + [(name, stone, seen)])
            self.assert_alike(observer, other)
        else:
            with self.assertRaises(Contradiction):
                getattr(observer, name)(stone, seen)
            self.assertEqual(seen_push(observer), before)

    def test_at_first_all_pushes_are_possible(self):
        for row in (Row(), Row((3, 1)), FIVE, CHAIN, LONGEST):
            observer = PushObserver(row)
            self.assertEqual([observer.candidates, observer.observations], [all_pushes(row), []])
            self.assertEqual(len(observer), 2 * len(row))

    def test_a_single_observation_against_all_pushes(self):
        rows = [row for count in range(1, 4) for row in all_rows(count, (1, 2), (1, 2, 4))]
        for row in rows + list(mixed_rows(20, 8, 51)):
            sights = [("see_stone", seen) for seen in (True, False)]
            sights += [("see_tick", tick) for tick in range(len(row) + 1)]
            for stone in range(len(row)):
                for name, seen in sights:
                    with self.subTest(stones=row.stones, observation=(name, stone, seen)):
                        self.assert_seen(PushObserver(row), PlainPushObserver(row), name, stone, seen)

    def test_several_observations_against_all_pushes(self):
        chance = random.Random(52)
        for row in mixed_rows(80, 12, 53):
            if len(row) == 0:
                continue
            observer, other = PushObserver(row), PlainPushObserver(row)
            self.assert_alike(observer, other)
            ticks = other.ticks(chance.choice(other.pushes))
            for _ in range(10):
                stone = chance.randrange(len(row))
                observations = [("see_stone", stone, stone in ticks), ("see_stone", stone, chance.random() < 0.5),
                                ("see_tick", stone, chance.randint(0, 3))]
                if stone in ticks:
                    observations.append(("see_tick", stone, ticks[stone]))
                with self.subTest(stones=row.stones, observations=observations):
                    self.assert_seen(observer, other, *chance.choice(observations))
            again = PushObserver.from_log(row, *observer.observations)
            self.assertEqual(seen_push(again), seen_push(observer))

    def test_best_stone_whichever_pushes_remain(self):
        for row in mixed_rows(30, 6, 54):
            for stone, side in all_pushes(row):
                fallen = felled(row.stones, stone, side)
                for stones in itertools.combinations(range(len(row)), 2):
                    observer, other = PushObserver(row), PlainPushObserver(row)
                    for seen in stones:
                        observer.see_stone(seen, seen in fallen)
                        other.pushes = other.pushes_after("see_stone", seen, seen in fallen)
                    self.assertEqual(observer.best_stone(), other.best_stone())

    def test_best_stone_of_rows_without_and_with_stones(self):
        self.assertIsNone(PushObserver(Row()).best_stone())
        self.assertEqual(PushObserver(Row((3, 1))).best_stone(), 0)
        self.assertEqual(PushObserver(Row((0, 1), (5, 1), (10, 1))).best_stone(), 0)
        self.assertEqual(PushObserver(Row((0, 1), (5, 5), (10, 1), (15, 1))).best_stone(), 0)
        self.assertEqual(PushObserver(Row((0, 1), (5, 1), (10, 5))).best_stone(), 1)

    def test_a_tick_is_only_seen_of_a_stone_that_falls(self):
        observer = PushObserver(CHAIN)
        self.assertEqual(observer.see_tick(4, 3), 1)
        self.assertEqual(observer.candidates, [(1, "right")])
        self.assertEqual(PushObserver(CHAIN).see_tick(0, 0), 2)

    def test_the_latest_tick(self):
        self.assertEqual(PushObserver(LONGEST).see_tick(39, 39), 1)
        with self.assertRaises(Contradiction):
            PushObserver(LONGEST).see_tick(39, 40)

    def test_observations_that_tell_nothing_new(self):
        observer = PushObserver(FIVE)
        self.assertEqual([observer.see_stone(1, True) for _ in range(3)], [5, 5, 5])
        self.assertEqual(observer.observations, [("see_stone", 1, True)] * 3)

    def test_in_is_false_for_what_is_no_push(self):
        observer = PushObserver(FIVE)
        self.assertIs((1, "left") in observer, True)
        for push in (("left", 1), (True, "left"), (False, "right"), (5, "left"), (-1, "left"), (1, "up"), (1, None),
                     (1, True), (1, ["left"]), ([1], "left"), ((1,), "left"), (1, ("left",)), (1,), ("left",), (),
                     (1, "left", 0), (0, 1, "left"), [1, "left"], None, 1, True, "left", ""):
            with self.subTest(push=push):
                self.assertIs(push in observer, False)
        self.assertIs((0, "left") in PushObserver(Row()), False)


class FromLogTest(unittest.TestCase):

    def test_no_observations(self):
        for row in (Row(), FIVE):
            observer = PushObserver.from_log(row)
            self.assertIsInstance(observer, PushObserver)
            self.assertEqual(seen_push(observer), seen_push(PushObserver(row)))

    def test_all_observations_are_accepted_in_their_order(self):
        log = [("see_tick", 1, 2), ("see_stone", 0, False), ("see_stone", 2, True), ("see_tick", 2, 1)]
        observer = PushObserver.from_log(FIVE, *log)
        self.assertEqual([observer.observations, observer.candidates], [log, [(3, "left")]])
        self.assertEqual(observer.see_tick(3, 0), 1)

    def test_errors(self):
        for log, error in (([("see_stone", 5, True)], UnknownStone), ([("see_tick", 5, 41)], UnknownStone),
                           ([("see_tick", 0, 41)], InvalidNumber), ([("see_tick", 0, 1)], Contradiction),
                           ([("see_stone", 0, True), ("see_stone", 4, True)], Contradiction),
                           ([("see_stone", 0, True), ("see_tick", None, 0)], UnknownStone),
                           ([("see_tick", 0, 1), ("see_stone", 9, True)], Contradiction),
                           ([("see_stone", 9, True), ("see_tick", 0, 1)], UnknownStone)):
            with self.subTest(log=log), self.assertRaises(error):
                PushObserver.from_log(FIVE, *log)

    def test_off_an_object(self):
        observer = PushObserver.from_log(FIVE, ("see_tick", 1, 2))
        self.assertEqual(observer.from_log(CHAIN, ("see_tick", 4, 3)).candidates, [(1, "right")])
        self.assertEqual(observer.candidates, [(3, "left")])


class PushErrorsTest(unittest.TestCase):

    def test_unknown_stones(self):
        observer = PushObserver(FIVE)
        for stone in WRONG_STONES + (5,):
            with self.subTest(stone=stone):
                for is_lying in (True, False):
                    with self.assertRaises(UnknownStone):
                        observer.see_stone(stone, is_lying)
                for tick in (0, 41, None, True):
                    with self.assertRaises(UnknownStone):
                        observer.see_tick(stone, tick)
        for call in (lambda none: none.see_stone(0, False), lambda none: none.see_tick(0, 0)):
            with self.assertRaises(UnknownStone):
                call(PushObserver(Row()))
        self.assertEqual(seen_push(observer), seen_push(PushObserver(FIVE)))

    def test_wrong_ticks(self):
        observer = PushObserver(FIVE)
        for tick in WRONG_NUMBERS + (41, FAR):
            for stone in (0, 1):
                with self.subTest(stone=stone, tick=tick), self.assertRaises(InvalidNumber):
                    observer.see_tick(stone, tick)
        for tick in (2, 3, 39, 40):
            with self.subTest(tick=tick), self.assertRaises(Contradiction):
                observer.see_tick(4, tick)

    def test_errors_change_nothing(self):
        observer = PushObserver(FIVE)
        observer.see_stone(1, True)
        before = seen_push(observer)
        for name, arguments, error in (("see_stone", (5, True), UnknownStone), ("see_tick", (5, 0), UnknownStone),
                                       ("see_tick", (1, 41), InvalidNumber), ("see_tick", (1, 3), Contradiction),
                                       ("see_stone", (1, False), Contradiction),
                                       ("see_stone", (4, True), Contradiction)):
            with self.subTest(name=name, arguments=arguments), self.assertRaises(error):
                getattr(observer, name)(*arguments)
            self.assertEqual(seen_push(observer), before)
        self.assertEqual(observer.see_tick(1, 2), 1)


class PushValuesTest(unittest.TestCase):

    def test_returned_lists_may_be_modified(self):
        observer = PushObserver(FIVE)
        observer.see_stone(1, True)
        before = seen_push(observer)
        observer.candidates.clear()
        observer.observations.append(None)
        self.assertEqual(seen_push(observer), before)
        self.assertEqual(observer.see_tick(1, 2), 1)

    def test_observers_share_nothing(self):
        observer, other = PushObserver(FIVE), PushObserver(FIVE)
        observer.see_stone(1, True)
        self.assertEqual([len(other), other.observations], [10, []])

    def test_properties_are_not_assigned(self):
        for name in ("candidates", "observations"):
            with self.assertRaises(AttributeError):
                setattr(PushObserver(FIVE), name, [])


if __name__ == "__main__":
    unittest.main()
