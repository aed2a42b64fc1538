import unittest

from oncefolded.bits import (
    BitTable, absent_around, all_bits, bits_of, diagram_of_bits, switches_in, switches_needed)
from tests.helper import all_configurations, all_sets, diagram_by_definition, ends, some_sets


class BitsTest(unittest.TestCase):
    def test_each_bit_is_a_configuration(self):
        for count in range(5):
            configs = all_configurations(count)
            for chosen in all_sets(count) if count < 4 else some_sets(count, 200):
                d = diagram_by_definition(chosen, count)
                bits = sum(2 ** k for k, config in enumerate(configs) if config in chosen)
                self.assertEqual(bits_of(d, count), bits)
                found = diagram_of_bits(bits, count)
                self.assertEqual(found, d)
                self.assertTrue(all(type(end) is bool for end in ends(found)))

    def test_all_bits(self):
        for count in range(6):
            self.assertEqual(all_bits(count), bits_of(True, count))
            self.assertEqual(bits_of(False, count), 0)

    def test_switches_needed(self):
        self.assertEqual(switches_needed(True), 0)
        self.assertEqual(switches_needed(False), 0)
        self.assertEqual(switches_needed((0, False, True)), 1)
        self.assertEqual(switches_needed((3, False, True)), 4)
        self.assertEqual(switches_needed((0, (4, False, True), (1, True, False))), 5)
        self.assertEqual(switches_needed((0, (1, False, True), (2, True, False))), 3)

    def test_switches_in(self):
        rule = ("S", (("kind", "word"),), True, ())
        token = ("word", "w", 0, 0, False)
        self.assertEqual(switches_in(("S", (rule,), ()), []), 0)
        self.assertEqual(switches_in(("S", (rule[:2] + ((1, False, True), ()), rule), ()), [(token, True)]), 2)
        self.assertEqual(switches_in(("S", (rule,), ((0, 0, 0, (2, False, True)),)), [(token, (0, False, True))]), 3)
        self.assertEqual(switches_in(("S", (rule,), ()), [(token, False), (token, (3, False, True))]), 4)

    def test_tables(self):
        for count in (0, 1, 3, 5):
            table = BitTable(count)
            self.assertEqual(table.everywhere, all_bits(count))
            for chosen in some_sets(count, 50):
                d = diagram_by_definition(chosen, count)
                for _ in range(2):
                    self.assertEqual(table.bits(d), bits_of(d, count))
                    self.assertEqual(table.diagram(bits_of(d, count)), d)

    def test_absent_around(self):
        table = BitTable(2)
        presence = [table.bits(d) for d in ((0, False, True), True, (1, False, True))]
        self.assertEqual(absent_around(table, presence, 0, 3), table.everywhere)
        self.assertEqual(table.diagram(absent_around(table, presence, 1, 3)), (0, True, False))
        self.assertEqual(table.diagram(absent_around(table, presence, 1, 2)), (0, (1, True, False), False))
        self.assertEqual(absent_around(table, presence, 0, 1), 0)
        self.assertEqual(absent_around(table, [], 0, 0), table.everywhere)


if __name__ == "__main__":
    unittest.main()
