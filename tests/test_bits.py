import unittest

from oncefolded.bits import all_bits, bits_of, diagram_of_bits, switches_needed
from tests.helper import all_configurations, all_sets, diagram_by_definition, ends, some_sets


class BitsTest(unittest.TestCase):
    def test_each_bit_is_a_configuration(self):
        for count in range(5):
            configs = all_configurations(count)
            for chosen in all_sets(count) if count < 4 else some_sets(count, 200):
                d = diagram_by_definition(chosen, count)
                bits = sum(2 ** k for k, config in enumerate(configs) if config in chosen)
                self.assertEqual(bits_of(d, count), bits)
                found = diagram_of_bits(bits, count)
                self.assertEqual(found, d)
                self.assertTrue(all(type(end) is bool for end in ends(found)))

    def test_all_bits(self):
        for count in range(6):
            self.assertEqual(all_bits(count), bits_of(True, count))
            self.assertEqual(bits_of(False, count), 0)

    def test_switches_needed(self):
        self.assertEqual(switches_needed(True), 0)
        self.assertEqual(switches_needed(False), 0)
        self.assertEqual(switches_needed((0, False, True)), 1)
        self.assertEqual(switches_needed((3, False, True)), 4)
        self.assertEqual(switches_needed((0, (4, False, True), (1, True, False))), 5)
        self.assertEqual(switches_needed((0, (1, False, True), (2, True, False))), 3)


if __name__ == "__main__":
    unittest.main()
