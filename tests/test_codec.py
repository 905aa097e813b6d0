"""Bytes of rows: points 16 and 1."""

import copy
import random
import unittest

from samples import WRONG_KINDS, mixed_rows, small_rows

from rowdominoes.codec import decode_row, encode_row, pack_bytes, unpack_bytes
from rowdominoes.errors import DecodeError, InvalidCount
from rowdominoes.rows import Row

FAR = 10 ** 9
FIVE = Row((0, 2), (2, 1), (5, 4), (6, 1), (9, 1))
LONGEST = Row.even(40, 1, 1)
# The bytes of 10 ** 9, the greatest place and height, and of one more.
FAR_BYTES = [128, 148, 235, 220, 3]
TOO_FAR_BYTES = [129, 148, 235, 220, 3]
WRONG_VALUES = (-1, 256, 1000, FAR, -FAR, True, False, None, "", "1", [], [1], (), (1,))


def summed(values):
    """These values with their checksum behind them."""
    checksum = 8
    for value in values:
        checksum = (3 * checksum + value) % 251
    return list(values) + [checksum]


def plain_number(number):
    """The bytes of a number, by its binary figures."""
    figures = bin(number)[2:]
    groups = [figures[max(0, end - 7):end] for end in range(len(figures), 0, -7)]
    return [int(group, 2) + 128 for group in groups[:-1]] + [int(groups[-1], 2)]


def plain_bytes(stones):
    values = [68, len(stones)]
    for place_before, (place, height) in zip((0,) + tuple(place for place, _ in stones), stones):
        values += plain_number(place - place_before) + plain_number(height)
    return bytes(summed(values))


def plain_fault(data):
    """The offset of the first invalid byte, or None: the bytes are split first, and looked at then."""
    if data[:1] != b"D":
        return 0
    if len(data) == 1 or data[1] > 40:
        return 1
    starts = [2] + [at + 1 for at in range(2, len(data)) if data[at] < 128]
    place = 0
    for index, (start, end) in enumerate(zip(starts, starts[1:])):
        if index == 2 * data[1]:
            break
        if end - start > 1 and data[end - 1] == 0:
            return end - 1
        number = sum((byte & 127) << 7 * at for at, byte in enumerate(data[start:end]))
        place += number if index % 2 == 0 else 0
        if place > FAR or number > FAR or number == 0 and index > 0:
            return start
    if len(starts) <= 2 * data[1]:
        return len(data)
    end = starts[2 * data[1]]
    if end == len(data) or data[end] != summed(data[:end])[-1]:
        return end
    return end + 1 if len(data) > end + 1 else None


class CodecCase(unittest.TestCase):

    def assert_invalid(self, values, offset):
        with self.subTest(values=values):
            with self.assertRaises(DecodeError) as caught:
                decode_row(bytes(values))
            self.assertEqual(caught.exception.offset, offset)
            self.assertEqual(plain_fault(bytes(values)), offset)


class ExamplesTest(CodecCase):

    def test_pack_and_unpack_bytes(self):
        self.assertEqual(unpack_bytes(pack_bytes([1, 255])), [1, 255])

    def test_encode_and_decode_row(self):
        row = Row((300, 2), (301, 10 ** 9))
        self.assertEqual(decode_row(encode_row(row)).stones, ((300, 2), (301, 1000000000)))
        self.assert_invalid([68, 41], 1)


class PackBytesTest(CodecCase):

    def test_all_values(self):
        for values in ([], [0], [255], [0, 0, 0], list(range(256)), list(range(255, -1, -1)) * 3):
            data = pack_bytes(values)
            self.assertIs(type(data), bytes)
            self.assertEqual(data, bytes(values))
            self.assertEqual(unpack_bytes(data), values)

    def test_wrong_values(self):
        for wrong in WRONG_VALUES:
            for values in ([wrong], [0, wrong], [wrong, 255], [1, wrong, 1]):
                with self.subTest(values=values), self.assertRaises(InvalidCount):
                    pack_bytes(values)

    def test_what_is_no_list(self):
        for wrong in (True, False, None, 0, 1, -1, FAR, "", "1", "ab", (), (1,), (1, 255), b"", b"a", {}):
            with self.subTest(wrong=wrong), self.assertRaises(InvalidCount):
                pack_bytes(wrong)

    def test_the_list_is_not_kept_or_modified(self):
        values = [1, 2]
        data = pack_bytes(values)
        values.append(3)
        self.assertEqual([data, values], [b"\x01\x02", [1, 2, 3]])
        unpack_bytes(data).append(3)
        self.assertEqual(unpack_bytes(data), [1, 2])


class EncodeRowTest(CodecCase):

    def test_bytes_written_out(self):
        # 8, 3 * 8 + 68 = 92, 3 * 92 + 0 = 276, which leaves 25
        self.assertEqual(list(encode_row(Row())), [68, 0, 25])
        # 92, 277 - 251 = 26, 78, 78 * 3 + 2 = 236
        self.assertEqual(list(encode_row(Row((0, 2)))), [68, 1, 0, 2, 236])
        self.assertEqual(list(encode_row(Row((300, 2), (301, FAR)))),
                         summed([68, 2, 172, 2, 2, 1] + FAR_BYTES))
        self.assertEqual(list(encode_row(FIVE)), summed([68, 5, 0, 2, 2, 1, 3, 4, 1, 1, 3, 1]))

    def test_groups_of_seven_bits(self):
        for number, groups in ((1, [1]), (127, [127]), (128, [128, 1]), (129, [129, 1]), (255, [255, 1]),
                               (256, [128, 2]), (16383, [255, 127]), (16384, [128, 128, 1]),
                               (2 ** 21 - 1, [255, 255, 127]), (2 ** 21, [128, 128, 128, 1]),
                               (2 ** 28 - 1, [255, 255, 255, 127]), (2 ** 28, [128, 128, 128, 128, 1]),
                               (FAR, FAR_BYTES)):
            for row, values in ((Row((number, 1)), [68, 1] + groups + [1]), (Row((0, number)), [68, 1, 0] + groups),
                                (Row((number, number)), [68, 1] + groups + groups),
                                (Row((0, 1), (number, number)), [68, 2, 0, 1] + groups + groups)):
                with self.subTest(stones=row.stones):
                    self.assertEqual(list(encode_row(row)), summed(values))
                    self.assertEqual(decode_row(bytes(summed(values))), row)

    def test_there_and_back(self):
        chance = random.Random(71)
        rows = list(small_rows()) + [LONGEST, LONGEST >> FAR - 39, Row((0, FAR), (FAR, FAR))]
        for _ in range(200):
            places = sorted(chance.sample(range(FAR + 1), chance.randint(0, 40)))
            rows.append(Row(*[(place, chance.randint(1, chance.choice((5, 200, FAR)))) for place in places]))
        for row in rows:
            data = encode_row(row)
            self.assertIs(type(data), bytes)
            self.assertEqual(data, plain_bytes(row.stones))
            self.assertEqual(decode_row(data), row)
            self.assertIsNone(plain_fault(data))


class InvalidBytesTest(CodecCase):

    def test_first_byte(self):
        for first in range(256):
            if first != 68:
                self.assert_invalid([first], 0)
                self.assert_invalid(summed([first, 1, 0, 2]), 0)
        self.assert_invalid([0, 41, 128, 0], 0)

    def test_number_of_stones(self):
        for count in range(41, 256):
            self.assert_invalid([68, count], 1)
            self.assert_invalid(summed([68, count, 0, 1] + [1, 1] * (count - 1)), 1)
        self.assertEqual(decode_row(bytes(summed([68, 40, 0, 1] + [1, 1] * 39))), LONGEST)

    def test_last_byte_0(self):
        for many in range(1, 7):
            for more in ([], [1], summed([68, 1, 0, 1])):
                self.assert_invalid([68, 1] + [129] * many + [0] + more, 2 + many)
                self.assert_invalid([68, 1, 0] + [129] * many + [0] + more, 3 + many)
                self.assert_invalid([68, 2, 0, 1] + [128] * many + [0] + more, 4 + many)
                self.assert_invalid([68, 2, 0, 1, 1] + [255] * many + [0] + more, 5 + many)
        self.assert_invalid(summed([68, 1, 0, 130, 0]), 4)

    def test_wrong_checksum(self):
        for values in ([68, 0], [68, 1, 0, 2], [68, 2, 172, 2, 2, 1] + FAR_BYTES):
            right = summed(values)[-1]
            for checksum in range(256):
                if checksum != right:
                    self.assert_invalid(values + [checksum], len(values))
                    self.assert_invalid(values + [checksum, 0], len(values))

    def test_bytes_after_the_checksum(self):
        for values in ([68, 0], [68, 1, 0, 2], [68, 2, 172, 2, 2, 1] + FAR_BYTES):
            for more in ([0], [255], [68], [1, 2, 3], summed(values)):
                self.assert_invalid(summed(values) + more, len(values) + 1)

    def test_distance_0(self):
        self.assert_invalid([68, 2, 0, 1, 0], 4)
        self.assert_invalid(summed([68, 2, 0, 1, 0, 1]), 4)
        self.assert_invalid(summed([68, 3, 5, 200, 1, 1, 1, 0, 1]), 7)
        self.assertEqual(decode_row(bytes(summed([68, 1, 0, 1]))).stones, ((0, 1),))

    def test_distances_beyond_the_last_place(self):
        self.assert_invalid([68, 1] + TOO_FAR_BYTES, 2)
        self.assert_invalid([68, 1] + TOO_FAR_BYTES + [0], 2)
        self.assert_invalid(summed([68, 1] + TOO_FAR_BYTES + [1]), 2)
        self.assert_invalid(summed([68, 2] + FAR_BYTES + [1, 1, 1]), 8)
        self.assert_invalid(summed([68, 2] + FAR_BYTES + [1, 0, 1]), 8)
        self.assert_invalid(summed([68, 2, 1, 1] + FAR_BYTES + [1]), 4)
        self.assert_invalid(summed([68, 3, 0, 1, 1, 1] + FAR_BYTES + [1]), 6)
        row = Row((0, 1), (1, 1), (FAR, 1))
        self.assertEqual(decode_row(bytes(summed([68, 3, 0, 1, 1, 1, 255, 147, 235, 220, 3, 1]))), row)

    def test_heights(self):
        self.assert_invalid([68, 1, 0, 0], 3)
        self.assert_invalid(summed([68, 1, 0, 0]), 3)
        self.assert_invalid(summed([68, 2, 0, 1, 1, 0]), 5)
        self.assert_invalid([68, 1, 0] + TOO_FAR_BYTES, 3)
        self.assert_invalid(summed([68, 1, 0] + TOO_FAR_BYTES), 3)
        self.assert_invalid(summed([68, 2, 172, 2, 1, 1] + TOO_FAR_BYTES), 6)

    def test_numbers_of_many_bytes_are_read_first(self):
        for many in (5, 6, 9, 40, 200):
            self.assert_invalid([68, 1] + [128] * many, 2 + many)
            self.assert_invalid([68, 1] + [128] * many + [1], 2)
            self.assert_invalid([68, 1, 0] + [255] * many, 3 + many)
            self.assert_invalid([68, 1, 0] + [255] * many + [127, 9], 3)
            self.assert_invalid([68, 1, 0] + [255] * many + [0], 3 + many)

    def test_missing_bytes_at_each_place(self):
        for row in (Row(), Row((0, 2)), FIVE, Row((300, 2), (301, FAR)), Row((FAR, FAR)), LONGEST,
                    Row((0, 128), (2 ** 28, 2 ** 21), (FAR, FAR))):
            data = encode_row(row)
            for length in range(len(data)):
                self.assert_invalid(data[:length], length)

    def test_other_kinds(self):
        for wrong in WRONG_KINDS + (0, "D", [68, 0, 25], (68, 0, 25)):
            with self.subTest(wrong=wrong):
                with self.assertRaises(DecodeError) as caught:
                    decode_row(wrong)
                self.assertEqual(caught.exception.offset, 0)


class PlainReadingTest(CodecCase):

    def assert_like_plain_reading(self, data):
        offset = plain_fault(data)
        if offset is None:
            self.assertEqual(encode_row(decode_row(data)), data)
        else:
            self.assert_invalid(data, offset)

    def test_each_byte_with_each_other_value(self):
        for row in (Row(), Row((0, 2)), Row((300, 2), (301, FAR)), Row((1, 1), (FAR, 200))):
            data = encode_row(row)
            for at in range(len(data)):
                for value in range(256):
                    self.assert_like_plain_reading(data[:at] + bytes([value]) + data[at + 1:])

    def test_bytes_with_a_right_checksum(self):
        chance = random.Random(72)
        for _ in range(4000):
            count = chance.randint(0, 3)
            values = [68, count]
            for _ in range(2 * count):
                values += [chance.choice((128, 129, 255)) for _ in range(chance.choice((0, 0, 1, 2, 4)))]
                values.append(chance.choice((0, 1, 1, 2, 3, 4, 127)))
            self.assert_like_plain_reading(bytes(summed(values)))
            self.assert_like_plain_reading(bytes(summed(values)[:chance.randint(0, len(values))]))

    def test_any_bytes(self):
        chance = random.Random(73)
        for row in mixed_rows(200, 6, 74):
            data = list(encode_row(row))
            for _ in range(chance.randint(1, 3)):
                at = chance.randrange(len(data) + 1)
                data[at:at + chance.randint(0, 2)] = [chance.randrange(256) for _ in range(chance.randint(0, 2))]
            self.assert_like_plain_reading(bytes(data))

    def test_equal_rows_for_equal_bytes(self):
        data = encode_row(FIVE)
        before = copy.copy(data)
        self.assertEqual([decode_row(data), decode_row(data)], [FIVE, FIVE])
        self.assertEqual([data, encode_row(FIVE)], [before, before])


if __name__ == "__main__":
    unittest.main()
