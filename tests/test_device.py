"""[52] and clearfloor/device.py in the interface."""

import unittest

from clearfloor.device import Device
from clearfloor.errors import ClearfloorError, PowerCut


class DeviceTest(unittest.TestCase):
    def check_cut(self, device, start, row, written):
        with self.assertRaises(PowerCut) as caught:
            device.write(start, row)
        self.assertEqual(caught.exception.written, written)
        self.assertIsInstance(caught.exception, ClearfloorError)
        self.assertEqual(device.written, written)
        self.assertEqual(device.power, 0)

    def test_a_new_device(self):
        for size in (0, 1, 2, 7, 300):
            device = Device(size)
            self.assertEqual((device.data, device.size, device.power, device.written), ([0] * size, size, None, 0))
        self.assertEqual(Device(3, power=0).power, 0)
        self.assertEqual(Device(3, power=12).power, 12)

    def test_writing_and_reading_at_every_place(self):
        for start in range(9):
            for many in range(9 - start + 1):
                device = Device(9)
                row = list(range(1, many + 1))
                self.assertIsNone(device.write(start, row))
                wanted = [0] * start + row + [0] * (9 - start - many)
                self.assertEqual(device.data, wanted)
                self.assertEqual((device.size, device.power, device.written), (9, None, many))
                for place in range(9):
                    for length in range(9 - place + 1):
                        self.assertEqual(device.read(place, length), wanted[place:place + length])

    def test_all_bytes(self):
        device = Device(256)
        device.write(0, list(range(256)))
        self.assertEqual(device.read(0, 256), list(range(256)))
        device.write(0, [0] * 256)
        self.assertEqual(device.data, [0] * 256)

    def test_writing_over_what_stands_there(self):
        device = Device(4)
        device.write(0, [1, 2, 3, 4])
        device.write(1, [9, 0])
        self.assertEqual(device.data, [1, 9, 0, 4])
        self.assertEqual(device.written, 6)

    def test_a_row_that_is_cut_at_each_of_its_bytes(self):
        row = [11, 12, 13, 14, 15]
        for power in range(5):
            device = Device(8)
            device.write(0, [1, 2, 3, 4, 5, 6, 7, 8])
            device.recharge(power)
            self.check_cut(device, 2, row, 8 + power)
            self.assertEqual(device.data, [1, 2] + row[:power] + [3, 4, 5, 6, 7][power:] + [8])
            self.assertEqual(device.size, 8)

    def test_power_that_is_just_enough(self):
        device = Device(6, power=5)
        device.write(1, [1, 2, 3, 4, 5])
        self.assertEqual((device.data, device.power, device.written), ([0, 1, 2, 3, 4, 5], 0, 5))
        self.check_cut(device, 0, [9], 5)
        self.assertEqual(device.data, [0, 1, 2, 3, 4, 5])

    def test_power_that_is_left(self):
        device = Device(6, power=9)
        device.write(0, [1, 2])
        device.write(4, [3])
        self.assertEqual((device.power, device.written), (6, 3))

    def test_without_power(self):
        device = Device(3, power=0)
        self.check_cut(device, 0, [1], 0)
        self.check_cut(device, 2, [1, 2], 0)
        self.assertEqual(device.data, [0, 0, 0])

    def test_without_a_limit(self):
        device = Device(3)
        for number in range(100):
            device.write(0, [number, 1, 2])
        self.assertEqual((device.power, device.written), (None, 300))

    def test_the_bytes_of_several_writes_are_counted(self):
        device = Device(5, power=7)
        device.write(0, [1, 2, 3])
        device.write(3, [4, 5])
        self.check_cut(device, 1, [6, 7, 8], 7)
        self.assertEqual(device.data, [1, 6, 7, 4, 5])
        self.check_cut(device, 0, [9], 7)

    def test_recharging(self):
        device = Device(4, power=1)
        self.check_cut(device, 0, [1, 2], 1)
        device.recharge(2)
        self.assertEqual((device.power, device.written), (2, 1))
        self.check_cut(device, 1, [3, 4, 5], 3)
        self.assertIsNone(device.recharge())
        self.assertIsNone(device.power)
        device.write(0, [6, 7, 8, 9])
        self.assertEqual((device.data, device.power, device.written), ([6, 7, 8, 9], None, 7))
        device.recharge(power=0)
        self.check_cut(device, 0, [1], 7)
        device.recharge(None)
        self.assertIsNone(device.power)

    def test_the_empty_row(self):
        for power in (None, 0, 3):
            device = Device(2, power=power)
            for start in (0, 1, 2):
                device.write(start, [])
            self.assertEqual((device.data, device.power, device.written), ([0, 0], power, 0))

    def test_reading_needs_no_power(self):
        device = Device(3, power=3)
        device.write(0, [7, 8, 9])
        for place in range(3):
            self.assertEqual(device.read(place, 1), [7 + place])
        self.assertEqual(device.read(0, 3), [7, 8, 9])
        self.assertEqual(device.read(1, 0), [])
        self.assertEqual((device.power, device.written), (0, 3))

    def test_lists(self):
        device = Device(3)
        row = [1, 2]
        device.write(0, row)
        row.append(5)
        row[0] = 6
        self.assertEqual(device.data, [1, 2, 0])
        found = device.read(0, 3)
        found[1] = 9
        found.append(4)
        self.assertEqual(device.data, [1, 2, 0])
        device.recharge(1)
        row = [7, 8]
        self.check_cut(device, 0, row, 3)
        self.assertEqual(row, [7, 8])
