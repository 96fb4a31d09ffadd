import unittest

from tests.plain_pile import mixed_rows, small_rows
from topletter.codec import decode_timetable, encode_timetable, pack_bytes, unpack_bytes
from topletter.errors import DecodeError, InvalidCount
from topletter.timetables import Timetable


def plain_checksum(values):
    check = 4
    for value in values:
        check = (3 * check + value) % 241
    return check


def plain_bytes(rows):
    values = [76, len(rows)] + [10 * come + answers for come, answers in rows]
    return bytes(values + [plain_checksum(values)])


class PlainBytes(unittest.TestCase):
    def test_bytes_of_values(self):
        self.assertEqual(pack_bytes([76, 0, 255]), b"L\x00\xff")
        self.assertEqual(pack_bytes([]), b"")
        self.assertEqual(pack_bytes(list(range(256))), bytes(range(256)))

    def test_values_of_bytes(self):
        self.assertEqual(unpack_bytes(b"L\x00\xff"), [76, 0, 255])
        self.assertEqual(unpack_bytes(b""), [])
        self.assertEqual(unpack_bytes(bytes(range(256))), list(range(256)))

    def test_kinds(self):
        self.assertIs(type(pack_bytes([1])), bytes)
        self.assertEqual([type(value) for value in unpack_bytes(b"\x00\x01")], [int, int])

    def test_returned_and_given_lists_may_be_changed(self):
        data = b"abc"
        unpack_bytes(data).clear()
        self.assertEqual(unpack_bytes(data), [97, 98, 99])
        values = [1, 2]
        packed = pack_bytes(values)
        self.assertEqual(values, [1, 2])
        values.append(3)
        self.assertEqual(packed, b"\x01\x02")

    def test_what_is_no_list_of_integers_from_0_to_255(self):
        wrong = [None, True, False, 0, 3, 255, 10 ** 5000, "", "abc", "1", (), (1, 2), (76, 0, 255)]
        wrong += [[-1], [256], [1, 256], [1, -1, 2], [10 ** 5000], [-(10 ** 5000)]]
        wrong += [[True], [0, False], [None], ["1"], ["a"], [[1]], [(1,)]]
        for values in wrong:
            with self.assertRaises(InvalidCount) as caught:
                pack_bytes(values)
            self.assertIs(type(caught.exception), InvalidCount)


class Encoding(unittest.TestCase):
    def test_bytes_of_a_timetable(self):
        # 4 * 3 + 76 = 88; 88 * 3 + 1 = 265, 24; 24 * 3 + 21 = 93.
        self.assertEqual(list(encode_timetable(Timetable((2, 1)))), [76, 1, 21, 93])
        # 88 * 3 + 2 = 266, 25; 25 * 3 + 0 = 75; 75 * 3 + 99 = 324, 83.
        self.assertEqual(list(encode_timetable(Timetable((0, 0), (9, 9)))), [76, 2, 0, 99, 83])

    def test_many_timetables_there_and_back(self):
        for rows in small_rows() + mixed_rows(96):
            data = encode_timetable(Timetable(*rows))
            self.assertIs(type(data), bytes)
            self.assertEqual(data, plain_bytes(rows))
            found = decode_timetable(data)
            self.assertIsInstance(found, Timetable)
            self.assertEqual(repr(found.rows), repr(tuple(rows)))

    def test_all_rows_there_and_back(self):
        for come in range(10):
            for answers in range(10):
                data = encode_timetable(Timetable((come, answers)))
                self.assertEqual(decode_timetable(data).rows, ((come, answers),))

    def test_rows_are_not_shortened(self):
        self.assertEqual(decode_timetable(encode_timetable(Timetable((1, 1), (1, 1)))).rows, ((1, 1), (1, 1)))


class Decoding(unittest.TestCase):
    def assert_wrong(self, data, offset):
        with self.assertRaises(DecodeError) as caught:
            decode_timetable(data)
        self.assertIs(type(caught.exception), DecodeError)
        self.assertEqual(repr(caught.exception.offset), repr(offset), data)

    def test_bytes_that_are_cut_off(self):
        for rows in mixed_rows(48):
            data = plain_bytes(rows)
            for length in range(len(data)):
                self.assert_wrong(data[:length], length)

    def test_bytes_behind_the_checksum(self):
        for rows in mixed_rows(48):
            data = plain_bytes(rows)
            for more in (b"\x00", b"L", b"\xff\xff", bytes([data[-1]]), data):
                self.assert_wrong(data + more, len(data))

    def plain_offset(self, values):
        """The offset for DecodeError, or None, read byte by byte."""
        for offset in range(len(values) + 1):
            if offset == len(values):
                return offset
            value = values[offset]
            if offset == 0:
                right = value == 76
            elif offset == 1:
                right = 1 <= value <= 24
            elif offset < 2 + values[1]:
                right = value <= 99
            elif offset == 2 + values[1]:
                right = value == plain_checksum(values[:offset])
                if right and len(values) == offset + 1:
                    return None
            else:
                right = False
            if not right:
                return offset

    def test_one_other_byte(self):
        for rows in mixed_rows(48):
            data = plain_bytes(rows)
            for place in range(len(data)):
                for value in (0, 1, 2, 9, 24, 25, 75, 76, 77, 99, 100, 240, 241, 255, data[place] ^ 1):
                    values = list(data)
                    values[place] = value
                    offset = self.plain_offset(values)
                    if offset is None:
                        decoded = decode_timetable(bytes(values))
                        self.assertEqual(encode_timetable(decoded), bytes(values))
                    else:
                        self.assert_wrong(bytes(values), offset)

    def test_all_single_bytes(self):
        for value in range(256):
            self.assert_wrong(bytes([value]), 1 if value == 76 else 0)

    def test_all_numbers_of_rows(self):
        for many in range(256):
            self.assert_wrong(bytes([76, many]), 2 if 1 <= many <= 24 else 1)

    def test_all_rows(self):
        for value in range(256):
            self.assert_wrong(bytes([76, 1, value]), 3 if value <= 99 else 2)
            self.assert_wrong(bytes([76, 2, 99, value]), 4 if value <= 99 else 3)

    def test_all_checksums(self):
        for value in range(256):
            if value == 93:
                self.assertEqual(decode_timetable(bytes([76, 1, 21, value])).rows, ((2, 1),))
            else:
                self.assert_wrong(bytes([76, 1, 21, value]), 3)
                self.assert_wrong(bytes([76, 1, 21, value, 0]), 3)

    def test_the_checksum_itself_counts_and_not_its_rest(self):
        heads = [[76, 2, one, other] for one in range(100) for other in range(100)]
        low = [values for values in heads if plain_checksum(values) + 241 <= 255]
        self.assertEqual({plain_checksum(values) for values in low}, set(range(15)))
        for values in low:
            check = plain_checksum(values)
            self.assertEqual(list(encode_timetable(decode_timetable(bytes(values + [check])))), values + [check])
            self.assert_wrong(bytes(values + [check + 241]), 4)

    def test_no_bytes(self):
        self.assert_wrong(b"", 0)

    def test_the_first_wrong_byte_counts(self):
        self.assert_wrong(bytes([75, 25, 100]), 0)
        self.assert_wrong(bytes([76, 25, 100]), 1)
        self.assert_wrong(bytes([76, 3, 100, 1]), 2)
        self.assert_wrong(bytes([76, 2, 0, 100, 0, 0]), 3)
        self.assert_wrong(bytes([76, 0, 7]), 1)

    def test_what_is_no_bytes(self):
        for data in (None, True, 0, 76, "", "L", (), (76, 1, 21, 93), [], [76, 1, 21, 93], 10 ** 18):
            self.assert_wrong(data, 0)


if __name__ == "__main__":
    unittest.main()
