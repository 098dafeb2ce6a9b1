"""The texts of devices and of their programs."""

from tensorworks.devices import check_devices
from tensorworks.errors import TextError
from tensorworks.going import WORDS
from tensorworks.numerals import is_natural

DIGITS = 5
DEVICE_WORD = "device"
CHANNEL_WORD = "channel"


def line_of(words):
    """Return the line of words and numbers."""
    return " ".join([str(word) for word in words]) + "\n"


def write_devices(devices):
    """Return the text of devices."""
    check_devices(devices)
    memories, channels = devices
    lines = [line_of((DEVICE_WORD, number, memory)) for number, memory in enumerate(memories)]
    return "".join(lines + [line_of((CHANNEL_WORD,) + channel) for channel in channels])


def read_rows(text):
    """Return for each line of a text the tuple of its first word and its numbers."""
    *lines, rest = text.split("\n")
    if rest:
        raise TextError("the text does not end with a line feed")
    rows = []
    for line in lines:
        word, *numbers = line.split(" ")
        if not all([is_natural(number, DIGITS) for number in numbers]):
            raise TextError("not a number")
        rows.append((word,) + tuple([int(number) for number in numbers]))
    return rows


def read_devices(text):
    """Return the devices that have the text."""
    memories = []
    channels = []
    for row in read_rows(text):
        if row[:2] == (DEVICE_WORD, len(memories)) and len(row) == 3 and not channels:
            memories.append(row[2])
        elif row[0] == CHANNEL_WORD and len(row) == 4:
            channels.append(row[1:])
        else:
            raise TextError("neither a device nor a channel")
    devices = (tuple(memories), tuple(channels))
    check_devices(devices)
    return devices


def write_programs(programs):
    """Return the text of programs."""
    lines = []
    for device, program in enumerate(programs):
        lines.append(line_of((DEVICE_WORD, device)))
        lines.extend([line_of(step) for step in program])
    return "".join(lines)


def read_programs(text):
    """Return the programs that have the text."""
    programs = []
    for row in read_rows(text):
        if row == (DEVICE_WORD, len(programs)):
            programs.append([])
        elif programs and row[0] in WORDS and len(row) == WORDS[row[0]]:
            programs[-1].append(row)
        else:
            raise TextError("neither a device nor an instruction")
    return tuple([tuple(program) for program in programs])
