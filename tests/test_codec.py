import unittest

from harvestcarts.codec import decode_farm, encode_farm
from harvestcarts.errors import DecodeError
from harvestcarts.farms import Farm

FARMS = [Farm(("a", 1)), Farm(("z", 30)), Farm(("abcdefgh", 9)), Farm(("a", 2), ("b", 3)), Farm(("ab", 30), ("ba", 30)),
         Farm(("a", 5), ("b", 5), ("c", 5), ("d", 4), ("e", 4), ("f", 2)), Farm.equal(1, *"uvwxyz"),
         Farm(("wheat", 4), ("wheats", 4), ("whea", 4), ("rye", 4))]
# Neither bytes nor anything else that may stand in a list of them.
NEVER_RIGHT = [-1, 256, 300, 10 ** 18, True, False]


def with_checksum(data):
    """The bytes with their checksum behind them, computed from its description."""
    rest = 5
    for byte in data:
        rest = (3 * rest + byte) % 233
    return data + [rest]


class CodecTestCase(unittest.TestCase):

    def assert_wrong_byte(self, data, offset):
        before = list(data)
        with self.assertRaises(DecodeError) as caught:
            decode_farm(data)
        self.assertEqual(caught.exception.offset, offset, data)
        self.assertEqual(data, before)


class EncodeFarmTest(CodecTestCase):

    def test_bytes(self):
        self.assertEqual(encode_farm(Farm(("a", 1))), with_checksum([72, 1, 1, 1, 0]))
        self.assertEqual(encode_farm(Farm(("az", 30), ("abcdefgh", 4))),
                         with_checksum([72, 2, 30, 2, 0, 25, 4, 8, 0, 1, 2, 3, 4, 5, 6, 7]))

    def test_checksums(self):
        # 5, 87, 262 - 233 = 29, 88, 265 - 233 = 32, 96
        self.assertEqual(encode_farm(Farm(("a", 1)))[-1], 96)

    def test_lists_are_new_ones(self):
        farm = FARMS[3]
        encode_farm(farm).clear()
        self.assertEqual(encode_farm(farm), encode_farm(farm))
        self.assertIsInstance(encode_farm(farm), list)

    def test_all_are_bytes(self):
        for farm in FARMS:
            self.assertTrue(all(0 <= byte <= 255 for byte in encode_farm(farm)))


class DecodeFarmTest(CodecTestCase):

    def test_farms_come_back(self):
        for farm in FARMS:
            data = encode_farm(farm)
            self.assertEqual(decode_farm(data), farm)
            self.assertEqual(data, encode_farm(farm))

    def test_missing_bytes(self):
        for farm in FARMS:
            data = encode_farm(farm)
            for size in range(len(data)):
                self.assert_wrong_byte(data[:size], size)

    def test_what_follows_the_checksum(self):
        for farm in FARMS:
            data = encode_farm(farm)
            for more in [[0], [72, 1], [-1], [data[-1]]]:
                self.assert_wrong_byte(data + more, len(data))

    def test_checksum(self):
        for farm in FARMS:
            data = encode_farm(farm)
            last = len(data) - 1
            for byte in [*range(256), *NEVER_RIGHT]:
                if byte is True or byte is False or byte != data[last]:
                    self.assert_wrong_byte(data[:last] + [byte], last)
                    self.assert_wrong_byte(data[:last] + [byte, 0], last)

    def test_values_that_are_no_bytes(self):
        for farm in FARMS:
            data = encode_farm(farm)
            for offset in range(len(data)):
                for byte in NEVER_RIGHT:
                    self.assert_wrong_byte(data[:offset] + [byte] + data[offset + 1:], offset)

    def test_first_byte(self):
        for byte in [0, 71, 73, 255]:
            self.assert_wrong_byte([byte, 1, 1, 1, 0, 96], 0)
            self.assert_wrong_byte([byte], 0)

    def test_number_of_fields(self):
        for byte in [0, 7, 8, 255]:
            self.assert_wrong_byte([72, byte], 1)
            self.assert_wrong_byte(with_checksum([72, byte, 1, 1, 0]), 1)
        six = with_checksum([72, 6, 1, 1, 0, 1, 1, 1, 1, 1, 2, 1, 1, 3, 1, 1, 4, 1, 1, 5])
        self.assertEqual(decode_farm(six), Farm.equal(1, *"abcdef"))

    def test_limits(self):
        self.assertEqual(decode_farm(with_checksum([72, 1, 30, 1, 0])), Farm(("a", 30)))
        for byte in [0, 31, 255]:
            self.assert_wrong_byte(with_checksum([72, 1, byte, 1, 0]), 2)
            self.assert_wrong_byte(with_checksum([72, 2, 1, 1, 0, byte, 1, 1]), 5)
            self.assert_wrong_byte([72, 1, byte, 9, 99], 2)

    def test_products_of_limits(self):
        start = [72, 3, 20, 1, 0, 20, 1, 1]
        self.assertEqual(decode_farm(with_checksum(start + [10, 1, 2])).limits, (20, 20, 10))
        for byte in [11, 30]:
            self.assert_wrong_byte(with_checksum(start + [byte, 1, 2]), 8)
            self.assert_wrong_byte(start + [byte, 1, 0], 8)
        self.assert_wrong_byte([72, 4] + start[2:] + [11, 1, 2], 8)
        full = [72, 4, 20, 1, 0, 20, 1, 1, 10, 1, 2]
        self.assertEqual(decode_farm(with_checksum(full + [1, 1, 3])).limits, (20, 20, 10, 1))
        self.assert_wrong_byte(with_checksum(full + [2, 1, 3]), 11)

    def test_lengths_of_names(self):
        for byte in [0, 9, 255]:
            self.assert_wrong_byte(with_checksum([72, 1, 1, byte] + [0] * byte), 3)
        self.assertEqual(decode_farm(with_checksum([72, 1, 1, 8] + [0] * 8)), Farm(("aaaaaaaa", 1)))

    def test_letters(self):
        self.assertEqual(decode_farm(with_checksum([72, 1, 1, 3, 25, 0, 25])), Farm(("zaz", 1)))
        for byte in [26, 97, 255]:
            for place in range(3):
                data = [72, 1, 1, 3, 25, 0, 25]
                data[4 + place] = byte
                self.assert_wrong_byte(with_checksum(data), 4 + place)

    def test_repeated_names(self):
        self.assert_wrong_byte(with_checksum([72, 2, 2, 1, 0, 3, 1, 0]), 6)
        self.assert_wrong_byte(with_checksum([72, 3, 2, 2, 0, 1, 3, 1, 0, 3, 2, 0, 1]), 10)
        self.assert_wrong_byte([72, 3, 2, 1, 0, 3, 1, 0], 6)
        self.assert_wrong_byte([72, 3, 2, 1, 0, 3, 1, 0, 99], 6)
        self.assertEqual(decode_farm(with_checksum([72, 2, 2, 1, 0, 3, 2, 0, 0])).names, ("a", "aa"))

    def test_a_wrong_letter_comes_before_a_repeated_name(self):
        self.assert_wrong_byte([72, 2, 2, 2, 0, 0, 3, 2, 0, 26], 9)
        self.assert_wrong_byte([72, 2, 2, 2, 0, 0, 3, 2, 0], 9)

    def test_the_list_is_not_kept(self):
        data = encode_farm(FARMS[3])
        farm = decode_farm(data)
        data.clear()
        self.assertEqual(farm, FARMS[3])


class CodecExamplesTest(CodecTestCase):

    def test_encode_farm(self):
        self.assertEqual(encode_farm(Farm(("a", 2), ("b", 3))), [72, 2, 2, 1, 0, 3, 1, 1, 100])

    def test_decode_farm(self):
        self.assertEqual(decode_farm([72, 2, 2, 1, 0, 3, 1, 1, 100]).fields, (("a", 2), ("b", 3)))
        self.assert_wrong_byte([72, 7], 1)


if __name__ == "__main__":
    unittest.main()
