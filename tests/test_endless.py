"""Endless rows and their waves: points 10 and 1."""

import random
import unittest

from samples import WRONG_KINDS, WRONG_STONES, all_rows

from rowdominoes.endless import EndlessRow, Wave, repeating_ticks
from rowdominoes.errors import InvalidNumber, InvalidRow, UnknownStone
from rowdominoes.rows import Row

FAR = 10 ** 9
MOST = 10 ** 18
ROUNDS = 30


def unrolled_ticks(row, period, stone, rounds):
    """The ticks of all stones of so many rounds, those that do not fall left out.

    Stones of later rounds hit only stones farther to the right, so that the
    end of the last round changes nothing ahead of it.
    """
    stones = [(place + number * period, height) for number in range(rounds) for place, height in row.stones]
    ticks = {stone: 0}
    for other in range(stone + 1, len(stones)):
        hits = [tick for fallen, tick in ticks.items() if sum(stones[fallen]) >= stones[other][0]]
        if hits:
            ticks[other] = 1 + min(hits)
    return ticks


def mixed_endless_rows(many, most_stones, seed):
    chance = random.Random(seed)
    for _ in range(many):
        count = chance.randint(1, most_stones)
        places = sorted(chance.sample(range(3 * count), count))
        heights = chance.choice(((1, 2, 3), (1, 2, 3, 4, 5, 7), (1, 1, 1, 2, 3 * count), (1, 9 * count)))
        row = Row(*[(place, chance.choice(heights)) for place in places])
        yield row, places[-1] - places[0] + chance.randint(1, 4)


def endless_samples():
    for count in (1, 2, 3):
        for row in all_rows(count, (1, 2, 3), (1, 2, 3, 7)):
            for more in (1, 2, 4):
                yield row, row.places[-1] + more
    yield from mixed_endless_rows(250, 8, 21)


class ExamplesTest(unittest.TestCase):

    def test_endless_wave(self):
        wave = EndlessRow(Row((0, 3), (2, 2)), 4).wave(0)
        self.assertIs(wave.is_endless, True)
        self.assertEqual(wave.count_after(1), 2)
        self.assertEqual(wave.tick_of(10 ** 18, 0), 2000000000000000000)
        self.assertIsNone(wave.last_fallen)

    def test_wave_that_ends(self):
        wave = EndlessRow(Row((0, 3), (2, 1)), 4).wave(0)
        self.assertIs(wave.is_endless, False)
        self.assertEqual(wave.last_fallen, (0, 1))
        self.assertEqual(wave.count_after(10 ** 18), 2)
        self.assertIsNone(wave.tick_of(1, 0))

    def test_wrong_period(self):
        with self.assertRaises(InvalidNumber):
            EndlessRow(Row((0, 3), (2, 1)), 2)


class EndlessRowTest(unittest.TestCase):

    def test_properties(self):
        row = Row((3, 1), (5, 2))
        endless = EndlessRow(row, 7)
        self.assertEqual(endless.row, row)
        self.assertEqual(endless.period, 7)
        with self.assertRaises(AttributeError):
            endless.row = row
        with self.assertRaises(AttributeError):
            endless.period = 8

    def test_empty_rows(self):
        for row in (Row(), None, (), [], "", 5, True, ((0, 1),)):
            for period in (1, 0, None):
                with self.subTest(row=row), self.assertRaises(InvalidRow) as caught:
                    EndlessRow(row, period)
                self.assertEqual(caught.exception.index, 0)

    def test_limits_of_periods(self):
        for row, least in ((Row((0, 1)), 1), (Row((9, 1)), 1), (Row((5, 1), (8, 1)), 4),
                           (Row((0, 1), (FAR - 1, 1)), FAR), (Row((1, 1), (FAR, 1)), FAR)):
            for period in (least, FAR):
                self.assertEqual(EndlessRow(row, period).period, period)
            for period in (least - 1, 0, -1, FAR + 1, MOST):
                with self.subTest(row=row.stones, period=period), self.assertRaises(InvalidNumber):
                    EndlessRow(row, period)

    def test_no_period_is_left(self):
        for period in (FAR - 1, FAR, FAR + 1):
            with self.assertRaises(InvalidNumber):
                EndlessRow(Row((0, 1), (FAR, 1)), period)

    def test_wrong_kinds_of_periods(self):
        for period in WRONG_KINDS:
            with self.subTest(period=period), self.assertRaises(InvalidNumber):
                EndlessRow(Row((0, 1)), period)

    def test_waves(self):
        endless = EndlessRow(Row((3, 1), (5, 2)), 7)
        self.assertIsInstance(endless.wave(1), Wave)
        for stone in WRONG_STONES + (2, MOST):
            with self.subTest(stone=stone), self.assertRaises(UnknownStone):
                endless.wave(stone)


class WaveTest(unittest.TestCase):

    def test_against_unrolled_rows(self):
        for row, period in endless_samples():
            count = len(row)
            for stone in range(count):
                with self.subTest(stones=row.stones, period=period, stone=stone):
                    wave = EndlessRow(row, period).wave(stone)
                    ticks = unrolled_ticks(row, period, stone, ROUNDS)
                    for ordinal in range(ROUNDS * count):
                        self.assertEqual(wave.tick_of(*divmod(ordinal, count)), ticks.get(ordinal))
                    # Of the last tick, stones of further rounds may be missing.
                    for tick in range(max(ticks.values())):
                        fallen = sum(1 for other in ticks.values() if other <= tick)
                        self.assertEqual(wave.count_after(tick), fallen)
                    self.assert_end(wave, row, ticks)

    def assert_end(self, wave, row, ticks):
        endless = ROUNDS * len(row) - 1 in ticks
        self.assertIs(wave.is_endless, endless)
        if endless:
            self.assertIsNone(wave.last_fallen)
        else:
            self.assertEqual(wave.last_fallen, divmod(max(ticks), len(row)))
            for tick in (max(ticks.values()), max(ticks.values()) + 1, MOST):
                self.assertEqual(wave.count_after(tick), len(ticks))

    def test_far_ticks_and_rounds(self):
        for row, period in mixed_endless_rows(150, 12, 22):
            count = len(row)
            for stone in range(count):
                wave = EndlessRow(row, period).wave(stone)
                if not wave.is_endless:
                    continue
                for tick in (77, 10 ** 6 + 1, 10 ** 12 + 7, MOST - 1, MOST):
                    last = wave.count_after(tick) + stone - 1
                    number, other = divmod(last, count)
                    if number < MOST:
                        self.assertEqual(wave.tick_of(number, other), tick)
                        self.assertEqual(wave.tick_of(*divmod(last + 1, count)), tick + 1)
                for number in (77, 10 ** 6 + 1, 10 ** 12 + 7, MOST - 1, MOST):
                    for other in range(count):
                        tick = wave.tick_of(number, other)
                        before = number * count + other - stone
                        if 0 < tick <= MOST:
                            self.assertGreater(wave.count_after(tick), before)
                            self.assertLessEqual(wave.count_after(tick - 1), before)

    def test_one_stone(self):
        wave = EndlessRow(Row((9, 1)), 1).wave(0)
        self.assertEqual([wave.count_after(0), wave.count_after(MOST), wave.tick_of(MOST, 0)], [1, MOST + 1, MOST])
        wave = EndlessRow(Row((9, 1)), 2).wave(0)
        self.assertEqual([wave.count_after(0), wave.count_after(MOST), wave.last_fallen], [1, 1, (0, 0)])

    def test_waves_that_fell_a_stone_in_each_tick(self):
        for count in range(1, 41):
            endless = EndlessRow(Row.even(count, 2, 2), 2 * count)
            for stone in (0, count // 2, count - 1):
                wave = endless.wave(stone)
                self.assertEqual([wave.is_endless, wave.count_after(MOST)], [True, MOST + 1])
                self.assertEqual(wave.tick_of(MOST, count - 1), MOST * count + count - 1 - stone)
                _, ticks, stones = repeating_ticks(wave)
                self.assertEqual(ticks, stones)

    def test_stones_that_reach_over_many_rounds(self):
        wave = EndlessRow(Row((0, FAR)), 1).wave(0)
        self.assertEqual([wave.count_after(0), wave.count_after(1), wave.count_after(2)], [1, FAR + 1, 2 * FAR + 1])
        self.assertEqual(wave.count_after(MOST), MOST * FAR + 1)
        self.assertEqual([wave.tick_of(FAR, 0), wave.tick_of(FAR + 1, 0), wave.tick_of(MOST, 0)], [1, 2, FAR])
        wave = EndlessRow(Row((0, 1), (1, FAR)), 3).wave(0)
        self.assertEqual([wave.tick_of(0, 1), wave.tick_of(1, 0), wave.count_after(1)], [1, 2, 2])

    def test_just_as_far_as_the_height(self):
        self.assertIs(EndlessRow(Row((0, FAR)), FAR).wave(0).is_endless, True)
        self.assertIs(EndlessRow(Row((0, FAR - 1)), FAR).wave(0).is_endless, False)
        self.assertIs(EndlessRow(Row((0, 4), (4, 3)), 7).wave(0).is_endless, True)
        self.assertIs(EndlessRow(Row((0, 4), (4, 3)), 8).wave(0).is_endless, False)

    def test_stones_on_the_left_do_not_fall(self):
        wave = EndlessRow(Row((0, 9), (2, 9), (4, 9)), 6).wave(2)
        self.assertEqual([wave.tick_of(0, stone) for stone in range(3)], [None, None, 0])
        self.assertEqual(wave.tick_of(1, 0), 1)

    def test_a_wave_that_ends_in_the_next_round(self):
        wave = EndlessRow(Row((0, 1), (4, 3)), 6).wave(1)
        self.assertEqual([wave.is_endless, wave.last_fallen, wave.count_after(5)], [False, (1, 0), 2])
        self.assertEqual([wave.tick_of(1, 0), wave.tick_of(1, 1)], [1, None])

    def test_wrong_numbers(self):
        for wave in (EndlessRow(Row((0, 3), (2, 2)), 4).wave(0), EndlessRow(Row((0, 3), (2, 1)), 4).wave(0)):
            for number in (-1, MOST + 1) + WRONG_KINDS:
                with self.subTest(number=number):
                    with self.assertRaises(InvalidNumber):
                        wave.count_after(number)
                    for stone in (0, 2, None):
                        with self.assertRaises(InvalidNumber):
                            wave.tick_of(number, stone)
            for stone in WRONG_STONES + (2,):
                for number in (0, 1, MOST):
                    with self.subTest(stone=stone), self.assertRaises(UnknownStone):
                        wave.tick_of(number, stone)

    def test_properties_are_not_assigned(self):
        wave = EndlessRow(Row((0, 3)), 4).wave(0)
        with self.assertRaises(AttributeError):
            wave.is_endless = True
        with self.assertRaises(AttributeError):
            wave.last_fallen = None


class RepeatingTicksTest(unittest.TestCase):

    def test_against_the_words(self):
        for row, period in endless_samples():
            for stone in range(len(row)):
                wave = EndlessRow(row, period).wave(stone)
                found = repeating_ticks(wave)
                if not wave.is_endless:
                    self.assertIsNone(found)
                    continue
                self.assertIs(type(found), tuple)
                start, ticks, stones = found
                self.assertGreaterEqual(start, 0)
                self.assertGreater(ticks, 0)
                self.assertGreater(stones, 0)
                fallen = unrolled_ticks(row, period, stone, ROUNDS)
                counts = [0] * (max(fallen.values()) + 1)
                for tick in fallen.values():
                    counts[tick] += 1
                counts = [sum(counts[:tick + 1]) for tick in range(len(counts) - 1)]
                for tick in range(start, len(counts) - ticks):
                    self.assertEqual(counts[tick + ticks], counts[tick] + stones)
                for tick in (start, start + 1, start + 1000, MOST - ticks):
                    self.assertEqual(wave.count_after(tick + ticks), wave.count_after(tick) + stones)

    def test_plain_rows(self):
        start, ticks, stones = repeating_ticks(EndlessRow(Row((0, 2), (2, 2)), 4).wave(0))
        self.assertEqual(ticks, stones)
        start, ticks, stones = repeating_ticks(EndlessRow(Row((0, 6), (2, 6)), 4).wave(1))
        self.assertEqual(3 * ticks, stones)

    def test_forty_stones(self):
        row = Row(*[(place, 1 + place * 7 % 5) for place in range(40)])
        for stone in range(40):
            wave = EndlessRow(row, 41).wave(stone)
            ticks = unrolled_ticks(row, 41, stone, 12)
            for ordinal in range(12 * 40):
                self.assertEqual(wave.tick_of(*divmod(ordinal, 40)), ticks.get(ordinal))


class ValuesTest(unittest.TestCase):

    def test_repeated_calls(self):
        endless = EndlessRow(Row((0, 3), (2, 2)), 4)
        wave = endless.wave(0)
        for _ in range(3):
            self.assertEqual([wave.count_after(5), wave.tick_of(9, 1), wave.count_after(0)], [6, 19, 1])
            self.assertEqual(repeating_ticks(wave), repeating_ticks(endless.wave(0)))

    def test_a_call_that_fails_changes_nothing(self):
        wave = EndlessRow(Row((0, 3), (2, 2)), 4).wave(1)
        before = [wave.count_after(7), wave.tick_of(8, 0), repeating_ticks(wave)]
        for call in (lambda: wave.count_after(-1), lambda: wave.tick_of(0, 2), lambda: wave.tick_of(None, 0)):
            with self.assertRaises(ValueError):
                call()
        self.assertEqual([wave.count_after(7), wave.tick_of(8, 0), repeating_ticks(wave)], before)


if __name__ == "__main__":
    unittest.main()
