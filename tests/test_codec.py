"""Tests of bytes (points 1 and 16)."""

import itertools
import unittest

import oracle
from tiltheap import codec
from tiltheap.codec import decode_tray, encode_tray, pack_bytes, unpack_bytes
from tiltheap.errors import DecodeError, InvalidCount, TrayError
from tiltheap.trays import Tray

ROWS = ("a.b", ".c.", "d..")
ALL_MARBLES = ("zyxwvu", "tsrqpo", "nmlkji", "hgfedc", "ba....")
FULL = ("abcdefgh", "ijklmnop", "qrstuvwx", "yz......", "........", "........", "........", "........")


def checksum_of(values):
    """Return the checksum as one sum of powers of 2, by the rest of which it is defined."""
    total = 6 * 2 ** len(values)
    for at, value in enumerate(reversed(values)):
        total += value * 2 ** at
    return total % 239


def with_checksum(values):
    return bytes(values + [checksum_of(values)])


def encoded(rows):
    values = [84, len(rows), len(rows[0])]
    found = sorted(oracle.places(rows).items())
    values.append(len(found))
    for marble, (row, column) in found:
        values += [ord(marble) - 97, row * len(rows[0]) + column]
    return with_checksum(values)


def first_wrong(data):
    """Return the offset of the first invalid byte, by the words of the document, or None."""
    allowed = [lambda: data[0] == 84, lambda: 1 <= data[1] <= 8, lambda: 1 <= data[2] <= 8,
               lambda: data[3] <= min(26, data[1] * data[2])]
    for offset, is_good in enumerate(allowed):
        if offset >= len(data) or not is_good():
            return offset
    many = data[1] * data[2]
    end = 4 + 2 * data[3]
    for offset in range(4, end):
        if offset >= len(data):
            return offset
        earlier = [data[other] for other in range(4 + offset % 2, offset, 2)]
        if offset % 2 == 0 and (data[offset] > 25 or earlier and data[offset] <= earlier[-1]):
            return offset
        if offset % 2 == 1 and (data[offset] >= many or data[offset] in earlier):
            return offset
    if end >= len(data) or data[end] != checksum_of(list(data[:end])):
        return end
    return end + 1 if len(data) > end + 1 else None


class CodecTest(unittest.TestCase):
    def assert_wrong(self, data, offset):
        with self.assertRaises(DecodeError) as caught:
            decode_tray(data)
        self.assertEqual(caught.exception.offset, offset, data)

    def assert_as_told(self, data):
        offset = first_wrong(data)
        if offset is None:
            self.assertEqual(encode_tray(decode_tray(data)), data)
        else:
            self.assert_wrong(data, offset)


class InterfaceTest(CodecTest):
    def test_example_of_bytes(self):
        self.assertEqual(unpack_bytes(pack_bytes([1, 255])), [1, 255])

    def test_example_of_a_tray(self):
        self.assertEqual(decode_tray(encode_tray(Tray(*ROWS))).rows, ROWS)

    def test_example_of_a_wrong_byte(self):
        self.assert_wrong(pack_bytes([84, 9]), 1)

    def test_functions_are_defined_in_the_file_itself(self):
        for name in ("pack_bytes", "unpack_bytes", "encode_tray", "decode_tray"):
            self.assertEqual(getattr(codec, name).__module__, "tiltheap.codec")

    def test_arguments_have_their_names(self):
        self.assertEqual(pack_bytes(values=[7]), b"\x07")
        self.assertEqual(unpack_bytes(data=b"\x07"), [7])
        self.assertEqual(decode_tray(data=encode_tray(tray=Tray("a."))).rows, ("a.",))


class PackTest(CodecTest):
    def test_all_bytes(self):
        for values in ([], [0], [255], list(range(256)), [84] * 1000, [0, 0, 255]):
            data = pack_bytes(values)
            self.assertIs(type(data), bytes)
            self.assertEqual(data, bytes(values))
            self.assertIs(type(unpack_bytes(data)), list)
            self.assertEqual(unpack_bytes(data), values)

    def test_the_values_are_integers(self):
        self.assertEqual([type(value) for value in unpack_bytes(b"a\x00")], [int, int])

    def test_what_is_not_a_list(self):
        for values in oracle.NOT_STRINGS + ("", "abc", (1, 2), (), b"", b"ab", {}, {1: 2}, range(3), {1, 2}, 7):
            if isinstance(values, list) and not values:
                continue
            with self.assertRaises(InvalidCount):
                pack_bytes(values)

    def test_lists_of_other_values(self):
        for value in oracle.NOT_NUMBERS + (256, 1000, 10 ** 30, -1, -256, b"a", b""):
            for values in ([value], [0, value], [value, 255], [1, 2, value, 3]):
                before = list(values)
                with self.assertRaises(InvalidCount):
                    pack_bytes(values)
                self.assertTrue(all(one is other for one, other in zip(values, before)))
                self.assertEqual(len(values), len(before))

    def test_arguments_are_neither_modified_nor_kept(self):
        values = [1, 2, 3]
        data = pack_bytes(values)
        self.assertEqual(values, [1, 2, 3])
        values.append(4)
        self.assertEqual(data, b"\x01\x02\x03")

    def test_returned_lists_may_be_modified(self):
        data = pack_bytes([1, 2, 3])
        unpack_bytes(data).clear()
        self.assertEqual(unpack_bytes(data), [1, 2, 3])


class EncodeTest(CodecTest):
    def test_against_the_definition(self):
        for rows in oracle.ROWS + (ALL_MARBLES, FULL, ("." * 8,) * 8):
            tray = Tray(*rows)
            data = encode_tray(tray)
            self.assertIs(type(data), bytes)
            self.assertEqual(data, encoded(rows))
            self.assertEqual(encode_tray(tray), data)
            self.assertEqual(tray.rows, rows)

    def test_known_bytes(self):
        # 6, then 2 * 6 + 84 = 96, 2 * 96 + 1 = 193, 2 * 193 + 1 - 239 = 148, 2 * 148 - 239 = 57.
        self.assertEqual(unpack_bytes(encode_tray(Tray("."))), [84, 1, 1, 0, 57])
        # .., 2 * 148 + 1 - 239 = 58, 2 * 58 + 25 = 141, 2 * 141 + 0 - 239 = 43.
        self.assertEqual(unpack_bytes(encode_tray(Tray("z"))), [84, 1, 1, 1, 25, 0, 43])
        # .., 193, 2 * 193 + 2 - 239 = 149, 2 * 149 + 1 - 239 = 60, 2 * 60 + 1 = 121, 2 * 121 + 1 - 239 = 4.
        self.assertEqual(unpack_bytes(encode_tray(Tray(".b"))), [84, 1, 2, 1, 1, 1, 4])

    def test_the_marbles_are_in_ascending_order(self):
        self.assertEqual(unpack_bytes(encode_tray(Tray("z.a", "..m")))[:-1], [84, 2, 3, 3, 0, 2, 12, 5, 25, 0])

    def test_all_26_marbles(self):
        values = unpack_bytes(encode_tray(Tray(*ALL_MARBLES)))
        self.assertEqual(values[:4], [84, 5, 6, 26])
        self.assertEqual(values[4:-1:2], list(range(26)))
        self.assertEqual(values[5:-1:2], list(range(25, -1, -1)))
        self.assertEqual(len(values), 57)

    def test_the_greatest_place(self):
        rows = ("." * 8,) * 7 + (".......a",)
        self.assertEqual(unpack_bytes(encode_tray(Tray(*rows)))[:-1], [84, 8, 8, 1, 0, 63])

    def test_checksums_are_less_than_239(self):
        found = {encode_tray(Tray(*rows))[-1] for rows in oracle.ROWS}
        self.assertTrue(max(found) < 239)
        self.assertGreater(len(found), 5)


class DecodeTest(CodecTest):
    def test_bytes_lead_back_to_their_trays(self):
        for rows in oracle.ROWS + (ALL_MARBLES, FULL, ("." * 8,) * 8):
            tray = decode_tray(encoded(rows))
            self.assertIsInstance(tray, Tray)
            self.assertEqual(tray.rows, rows)
            self.assertEqual(decode_tray(encode_tray(Tray(*rows))), Tray(*rows))

    def test_all_sizes(self):
        for height, width in itertools.product(range(1, 9), range(1, 9)):
            rows = ("." * width,) * (height - 1) + ("." * (width - 1) + "q",)
            self.assertEqual(decode_tray(encoded(rows)).rows, rows)

    def test_what_is_not_bytes(self):
        for data in oracle.NOT_STRINGS + ("", "T\x01\x01\x00", [84, 1, 1, 0, 57], (84, 1, 1, 0, 57), 84, Tray("a")):
            if isinstance(data, bytes):
                continue
            self.assert_wrong(data, 0)

    def test_bytes_that_are_missing(self):
        self.assert_wrong(b"", 0)
        for rows in oracle.ROWS + (ALL_MARBLES,):
            data = encoded(rows)
            for length in range(len(data)):
                self.assert_wrong(data[:length], length)

    def test_bytes_after_the_checksum(self):
        for rows in oracle.ROWS:
            data = encoded(rows)
            for tail in (b"\x00", b"T", b"\xff", data, data[-1:], b"\x00" * 100):
                self.assert_wrong(data + tail, len(data))

    def test_each_byte_wrong_in_turn(self):
        for rows in (".",), ("a",), ("..", ".."), ("ab", "c."), ROWS:
            data = encoded(rows)
            for offset, value in itertools.product(range(len(data)), range(256)):
                self.assert_as_told(data[:offset] + bytes([value]) + data[offset + 1:])

    def test_each_byte_wrong_in_turn_before_a_right_checksum(self):
        for rows in (".",), ("a",), ("..", ".."), ("ab", "c."), ROWS:
            data = encoded(rows)
            for offset, value in itertools.product(range(len(data) - 1), range(256)):
                self.assert_as_told(with_checksum(list(data[:offset]) + [value] + list(data[offset + 1:-1])))

    def test_the_first_byte(self):
        for value in (0, 83, 85, 116, 255):
            self.assert_wrong(bytes([value]), 0)
            self.assert_wrong(bytes([value, 0, 9, 255]), 0)

    def test_numbers_of_rows_and_columns(self):
        for value in (0, 9, 10, 64, 255):
            self.assert_wrong(bytes([84, value, 0]), 1)
            self.assert_wrong(bytes([84, 1, value, 0]), 2)
            self.assert_wrong(bytes([84, 8, value]), 2)
        for value in range(1, 9):
            self.assert_wrong(bytes([84, value]), 2)
            self.assert_wrong(bytes([84, 8, value]), 3)

    def test_numbers_of_marbles(self):
        for height, width, many in ((1, 1, 1), (2, 3, 6), (5, 5, 25), (3, 8, 24)):
            self.assert_wrong(bytes([84, height, width, many + 1]), 3)
            self.assert_wrong(bytes([84, height, width, many]), 4)
        for height, width in ((4, 7), (7, 4), (8, 8)):
            self.assert_wrong(bytes([84, height, width, 26]), 4)
            self.assert_wrong(bytes([84, height, width, 27]), 3)
            self.assert_wrong(bytes([84, height, width, 255]), 3)

    def test_marbles(self):
        for value in (26, 27, 97, 255):
            self.assert_wrong(bytes([84, 3, 3, 2, value]), 4)
            self.assert_wrong(bytes([84, 3, 3, 2, 4, 0, value]), 6)
        for value in (0, 3, 4):
            self.assert_wrong(bytes([84, 3, 3, 2, 4, 0, value]), 6)
        for value in (5, 25):
            self.assert_wrong(bytes([84, 3, 3, 2, 4, 0, value]), 7)
        self.assert_wrong(bytes([84, 3, 3, 3, 4, 0, 25, 1]), 8)
        for value in (0, 25, 26, 255):
            self.assert_wrong(bytes([84, 3, 3, 3, 4, 0, 25, 1, value]), 8)

    def test_places(self):
        for value in (6, 7, 63, 64, 255):
            self.assert_wrong(bytes([84, 2, 3, 2, 0, value]), 5)
            self.assert_wrong(bytes([84, 2, 3, 2, 0, 1, 1, value]), 7)
        self.assert_wrong(bytes([84, 2, 3, 2, 0, 1, 1, 1]), 7)
        self.assert_wrong(bytes([84, 2, 3, 2, 0, 1, 1, 0]), 8)
        self.assert_wrong(bytes([84, 2, 3, 3, 0, 1, 1, 0, 2, 1]), 9)
        self.assert_wrong(bytes([84, 2, 3, 3, 0, 1, 1, 0, 2, 0]), 9)

    def test_checksums(self):
        for rows in oracle.ROWS:
            data = encoded(rows)
            for value in range(256):
                if value != data[-1]:
                    self.assert_wrong(data[:-1] + bytes([value]), len(data) - 1)
                    self.assert_wrong(data[:-1] + bytes([value, 0]), len(data) - 1)
        # The checksum is a rest, so a byte that differs from it by 239 is another one.
        small = []
        for marble, place in itertools.product(range(26), range(64)):
            values = [84, 8, 8, 1, marble, place]
            if checksum_of(values) <= 16:
                small.append(values)
                self.assert_wrong(bytes(values + [checksum_of(values) + 239]), 6)
        self.assertTrue(small)

    def test_bytes_are_read_from_left_to_right(self):
        data = list(encoded(ROWS))
        for first, second in itertools.combinations(range(len(data)), 2):
            values = list(data)
            values[first] = values[second] = 255
            self.assert_wrong(bytes(values), first)
            self.assert_wrong(bytes(values[:second]), first)
            self.assert_wrong(bytes(values) + b"\x00", first)

    def test_the_data_stays_as_it_is(self):
        data = encoded(ROWS)
        self.assertEqual(decode_tray(data), decode_tray(data))
        self.assertEqual(data, encoded(ROWS))

    def test_errors_are_those_of_the_package(self):
        for call in (lambda: decode_tray(b""), lambda: pack_bytes(None)):
            with self.assertRaises(TrayError):
                call()


if __name__ == "__main__":
    unittest.main()
