"""The whole program: its parts agree with each other."""

import random
import unittest

from samples import SIDES, all_pushes, mixed_rows

from rowdominoes.codec import decode_row, encode_row, pack_bytes, unpack_bytes
from rowdominoes.cutting import fewest_taken, least_height, least_heights, safe_growth
from rowdominoes.endless import EndlessRow
from rowdominoes.errors import AlreadyFallen, InvalidRow, NotStanding
from rowdominoes.live import LiveRow
from rowdominoes.notation import chart, format_row, parse_row
from rowdominoes.rows import Row
from rowdominoes.runs import fall_ticks, falls_by, fewest_pushes, fewest_to_side, first_unlike_push, spared_without
from rowdominoes.watching import HeightObserver, PushObserver

FAR = 10 ** 9


def sample_rows(seed):
    yield from mixed_rows(60, 10, seed)
    yield Row.even(40, 2, 2)
    yield Row((0, 1), (5, FAR - 5), (FAR - 1, FAR), (FAR, 1))


def ticks_of_chart(text):
    """The ticks of the stones that fall, read off a chart."""
    words = [line.split() for line in text.split("\n")]
    return {int(line[0]): int(line[3]) for line in words if line[3] != "-"}


def random_pushes(row, chance):
    """Pushes of stones that stand, one after another, until all stones have fallen."""
    live = LiveRow(row)
    while live.standing:
        live.push(chance.choice(live.standing), chance.choice(SIDES))
    return [(stone, side) for _, stone, side in live.history]


class SinglePushesTest(unittest.TestCase):

    def test_all_parts_tell_the_same_run(self):
        for row in sample_rows(81):
            for stone, side in all_pushes(row):
                first, last = row(stone, side)
                fallen = list(range(first, last + 1))
                live = LiveRow(row)
                ticks = fall_ticks(row, stone, side)
                self.assertEqual(list(ticks), fallen)
                self.assertEqual(list(falls_by(row, (stone, side))), [fallen])
                self.assertEqual([live.push(stone, side), live.lying], [fallen, fallen])
                self.assertEqual(ticks_of_chart(chart(row, stone, side)), ticks)
                for goal in range(len(row)):
                    self.assertIs(fewest_taken(row, stone, side, goal) != [], goal in fallen)

    def test_what_is_spared_stands_in_a_live_row(self):
        for row in sample_rows(82):
            for stone, side in all_pushes(row):
                fallen = list(fall_ticks(row, stone, side))
                for other in range(len(row)):
                    if other != stone:
                        found = LiveRow(row).apply(("take", other), ("push", stone, side))[1]
                        spared = [gone for gone in fallen if gone not in found and gone != other]
                        self.assertEqual(spared_without(row, stone, side, other), spared)

    def test_stones_that_are_taken_away_spare_the_goal(self):
        for row in mixed_rows(40, 8, 83):
            for stone, side in all_pushes(row):
                for goal in range(len(row)):
                    taken = fewest_taken(row, stone, side, goal)
                    if taken is not None:
                        operations = [("take", other) for other in taken] + [("push", stone, side)]
                        self.assertIn(goal, LiveRow(row).standing_after(*operations))
                        left = row.without(*taken)
                        moved = [number - len([other for other in taken if other < number])
                                 for number in (stone, goal)]
                        first, last = left(moved[0], side)
                        self.assertFalse(first <= moved[1] <= last)

    def test_an_endless_row_begins_like_its_row(self):
        for row in mixed_rows(40, 8, 84):
            if len(row) == 0:
                continue
            lonely = EndlessRow(row, FAR)
            for stone in range(len(row)):
                ticks = fall_ticks(row, stone, "right")
                wave = lonely.wave(stone)
                self.assertEqual([wave.tick_of(0, other) for other in range(len(row))],
                                 [ticks.get(other) for other in range(len(row))])
                self.assertEqual(wave.last_fallen, (0, row(stone, "right")[1]))


class SeveralPushesTest(unittest.TestCase):

    def test_live_rows_and_pushes_one_after_another(self):
        chance = random.Random(85)
        for row in sample_rows(86):
            pushes = random_pushes(row, chance)
            operations = [("push", *push) for push in pushes]
            felled = list(falls_by(row, *pushes))
            self.assertEqual(LiveRow(row).apply(*operations), felled)
            self.assertEqual(sorted(sum(felled, [])), list(range(len(row))))
            live = LiveRow.replay(row, operations)
            self.assertEqual([live.standing, live.history], [[], operations])
            self.assertLessEqual(len(fewest_pushes(row)), len(pushes))

    def test_fewest_pushes_fell_all_stones_of_a_live_row(self):
        for row in sample_rows(87):
            to_sides = [[(stone, side) for stone in fewest_to_side(row, side)] for side in SIDES]
            for pushes in [fewest_pushes(row)] + to_sides:
                live = LiveRow(row)
                live.apply(*[("push", *push) for push in pushes])
                self.assertEqual(live.standing, [])
            self.assertLessEqual(len(fewest_pushes(row)), min(map(len, to_sides)))

    def test_the_same_stones_cannot_be_pushed(self):
        chance = random.Random(88)
        for row in mixed_rows(60, 8, 89):
            pushes = [(chance.randrange(len(row)), chance.choice(SIDES)) for _ in range(5 if len(row) else 0)]
            live = LiveRow(row)
            done = 0
            try:
                for done, push in enumerate(pushes):
                    live.push(*push)
            except NotStanding as error:
                self.assertEqual(error.stone, pushes[done][0])
                with self.assertRaises(AlreadyFallen) as caught:
                    list(falls_by(row, *pushes))
                self.assertEqual(caught.exception.index, done)
            else:
                self.assertEqual(len(list(falls_by(row, *pushes))), len(pushes))


class ObserversTest(unittest.TestCase):

    def test_who_sees_a_live_row_finds_its_push(self):
        for row in sample_rows(90):
            for push in all_pushes(row)[:30]:
                live = LiveRow(row)
                fallen = live.push(*push)
                log = [("see_stone", stone, stone not in live) for stone in range(len(row))]
                observer = PushObserver.from_log(row, *log)
                self.assertEqual(observer.candidates,
                                 [other for other in all_pushes(row) if LiveRow(row).push(*other) == fallen])
                ticks = ticks_of_chart(chart(row, *push))
                observer = PushObserver.from_log(row, *[("see_tick", stone, ticks[stone]) for stone in ticks])
                self.assertIn(push, observer)
                for other in observer.candidates:
                    seen = fall_ticks(row, *other)
                    self.assertEqual([seen[stone] for stone in ticks], list(ticks.values()))

    def test_who_counts_fallen_stones_finds_the_height(self):
        for row in mixed_rows(60, 8, 91):
            for stone in range(len(row)):
                observer = HeightObserver(row, stone)
                for push in all_pushes(row):
                    observer.see_run(*push, len(LiveRow(row).push(*push)))
                least, greatest = observer.height_range
                self.assertLessEqual(least, row[stone][1])
                self.assertLessEqual(row[stone][1], greatest)
                self.assertEqual(observer.telling_pushes(), [])
                self.assertIsNone(first_unlike_push(row.with_height(stone, least), row))
                self.assertIsNone(first_unlike_push(row.with_height(stone, greatest), row))
                for height in (least - 1, greatest + 1):
                    if 1 <= height <= FAR:
                        self.assertIsNotNone(first_unlike_push(row.with_height(stone, height), row))

    def test_least_heights_remain_possible(self):
        for row in mixed_rows(60, 8, 92):
            for stone, height in enumerate(least_heights(row)):
                observer = HeightObserver(row, stone)
                for side in SIDES:
                    observer.see_run(stone, side, len(LiveRow(row).push(stone, side)))
                least, greatest = observer.height_range
                self.assertEqual(least, height)
                self.assertEqual(greatest, min(FAR, row[stone][1] + safe_growth(row, stone)))

    def test_least_height_begins_what_the_observer_sees(self):
        for row in mixed_rows(40, 6, 93):
            for stone in range(len(row)):
                for push in all_pushes(row):
                    first, last = row(*push)
                    goal = last if push[1] == "right" else first
                    observer = HeightObserver(row, stone)
                    observer.see_run(*push, last - first + 1)
                    self.assertEqual(observer.height_range[0], least_height(row, *push, stone, goal))


class FormatsTest(unittest.TestCase):

    def test_texts_and_bytes_hold_the_same_row(self):
        for row in sample_rows(94):
            for other in (row, row >> FAR - 100 if len(row) and row.places[-1] <= 100 else row):
                text, data = format_row(other), encode_row(other)
                self.assertEqual([parse_row(text), decode_row(data)], [other, other])
                self.assertEqual([encode_row(parse_row(text)), format_row(decode_row(data))], [data, text])
                self.assertEqual(pack_bytes(unpack_bytes(data)), data)
                self.assertEqual(unpack_bytes(data)[:2], [68, text.count("stone")])

    def test_texts_behind_each_other_are_rows_behind_each_other(self):
        for row in mixed_rows(40, 6, 95):
            if len(row) == 0:
                continue
            behind = row >> row.places[-1] - row.places[0] + 1
            text = f"{format_row(row)}\n{format_row(behind)}"
            self.assertEqual(parse_row(text), row + behind)
            with self.assertRaises(InvalidRow) as caught:
                parse_row(f"{text}\n{format_row(row)}")
            self.assertEqual(caught.exception.index, 2 * len(row))

    def test_rows_that_were_read_are_pushed_like_any_other(self):
        for row in mixed_rows(40, 8, 96):
            read = decode_row(encode_row(parse_row(format_row(row))))
            self.assertIsNone(first_unlike_push(row, read))
            for push in all_pushes(row):
                self.assertEqual(chart(read, *push), chart(row, *push))
                self.assertEqual(LiveRow(read).push(*push), LiveRow(row).push(*push))


if __name__ == "__main__":
    unittest.main()
