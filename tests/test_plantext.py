"""Point 1306: the texts of devices and programs."""

import random
import unittest

from tensorworks.errors import DeviceError, TextError
from tensorworks.pieces import programs_of
from tensorworks.plantext import read_devices, read_programs, write_devices, write_programs
from tests.helpers import error_of
from tests.shared_graphs import random_devices, random_sharing

DEVICES = ((4, 0, 65536), ((0, 1, 7), (2, 1, 65536)))
TEXT = "device 0 4\ndevice 1 0\ndevice 2 65536\nchannel 0 1 7\nchannel 2 1 65536\n"
PROGRAMS = ((("make", 0), ("send", 0, 1)), (), (("take", 0, 0), ("drop", 0)))
PROGRAM_TEXT = "device 0\nmake 0\nsend 0 1\ndevice 1\ndevice 2\ntake 0 0\ndrop 0\n"


def changed(text):
    """Return texts with one character, word or line left out, doubled, exchanged or replaced."""
    found = [text[:at] + text[at + 1:] for at in range(len(text))]
    found += [text[:at] + sign + text[at + 1:] for at in range(len(text)) for sign in " \n0-a5\t\u0663"]
    found += [text[:at] + sign + text[at:] for at in range(len(text) + 1) for sign in " \n0-a5"]
    for cut in ("\n", " "):
        parts = text.split(cut)
        found += [cut.join(parts[:at] + parts[at + 1:]) for at in range(len(parts))]
        found += [cut.join(parts[:at + 1] + parts[at:]) for at in range(len(parts))]
        found += [cut.join(parts[:at] + [parts[at + 1], parts[at]] + parts[at + 2:]) for at in range(len(parts) - 1)]
    return found


class Devices(unittest.TestCase):
    def test_text(self):
        self.assertEqual(write_devices(DEVICES), TEXT)
        self.assertEqual(read_devices(TEXT), DEVICES)
        self.assertEqual(write_devices(((5,), ())), "device 0 5\n")

    def test_back(self):
        for seed in range(60):
            devices = random_devices(random.Random(seed))
            self.assertEqual(read_devices(write_devices(devices)), devices)

    def test_errors_of_the_devices(self):
        for devices in (((), ()), ((5,), ((0, 0, 1),)), ((65537,), ()), ((-1,), ())):
            self.assertIs(error_of(write_devices, devices), DeviceError)
        for text in (
                "", "device 0 65537\n", "device 0 99999\n", "channel 0 1 5\n", "device 0 5\nchannel 0 0 1\n", "device 0 5\nchannel 0 1 1\n",
                "device 0 5\ndevice 1 5\nchannel 0 1 0\n", "device 0 5\ndevice 1 5\nchannel 0 1 1\nchannel 0 1 1\n",
                "device 0 1\ndevice 1 1\ndevice 2 1\ndevice 3 1\n", "device 0 5\nchannel 99999 0 1\n"):
            self.assertIs(error_of(read_devices, text), DeviceError, text)

    def test_wrong_texts(self):
        for text in (
                "\n", " ", "device", "device 0 5", "device 0 5\n\n", "\ndevice 0 5\n", "device 1 5\n", "device 0 5\ndevice 0 5\n",
                "device 0 5\ndevice 2 5\n", "device 0 05\n", "device 00 5\n", "device 0 -5\n", "device 0 +5\n", "device 0 100000\n",
                "device 0 00005\n", "device 0\n", "device 0 5 5\n", "device 0 5 \n", " device 0 5\n", "device  0 5\n", "Device 0 5\n",
                "device 0 x\n", "device 0 5\r\n", "device 0 5\nchannel 0 1\n", "device 0 5\nchannel 0 1 1 1\n", "device 0 5\nchannel 0 1 100000\n",
                "channel 0 1 5\ndevice 0 5\n", "device 0 5\nmake 0\n", "device 0 5\nchannel -1 0 1\n", "channel\n", "device 0 \u0665\n"):
            self.assertIs(error_of(read_devices, text), TextError, text)

    def test_changed_texts(self):
        """What is read at all is written in the same way."""
        for text in changed(TEXT):
            found = error_of(read_devices, text)
            self.assertIn(found, (None, TextError, DeviceError), text)
            if found is None:
                self.assertEqual(write_devices(read_devices(text)), text)


class Programs(unittest.TestCase):
    def test_text(self):
        self.assertEqual(write_programs(PROGRAMS), PROGRAM_TEXT)
        self.assertEqual(read_programs(PROGRAM_TEXT), PROGRAMS)
        self.assertEqual((write_programs(()), read_programs("")), ("", ()))
        self.assertEqual((write_programs(((), ())), read_programs("device 0\ndevice 1\n")), ("device 0\ndevice 1\n", ((), ())))

    def test_back(self):
        for seed in range(60):
            programs = programs_of(*random_sharing(seed))
            self.assertEqual(read_programs(write_programs(programs)), programs)

    def test_any_programs(self):
        """They need not be right, and there may be more than three."""
        programs = ((("make", 99999), ("send", 5, 5)), (), (), (("take", 0, 99999),), (("drop", 0), ("drop", 0)))
        self.assertEqual(read_programs(write_programs(programs)), programs)

    def test_wrong_texts(self):
        for text in (
                "\n", "device 0", "device 0\n\n", "\ndevice 0\n", "device 1\n", "make 0\n", "device 0 5\n", "device 0\ndevice 0\n",
                "device 0\nmake\n", "device 0\nmake 0 0\n", "device 0\nsend 0\n", "device 0\nsend 0 0 0\n", "device 0\ntake 0\n",
                "device 0\ndrop 0 0\n", "device 0\ndrop\n", "device 0\nmake 100000\n", "device 0\nmake 00\n", "device 0\nmake 01\n",
                "device 0\nmake -1\n", "device 0\nmake x\n", "device 0\nMake 0\n", "device 0\nmake  0\n", "device 0\nmake 0 \n",
                "device 0\n make 0\n", "device 0\nchannel 0 1 5\n", "device 0\nmake 0", "device\n", "device 0\r\n", "device 0\nmake \u0665\n"):
            self.assertIs(error_of(read_programs, text), TextError, text)

    def test_changed_texts(self):
        for text in changed(PROGRAM_TEXT):
            found = error_of(read_programs, text)
            self.assertIn(found, (None, TextError), text)
            if found is None:
                self.assertEqual(write_programs(read_programs(text)), text)
