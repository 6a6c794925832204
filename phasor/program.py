"""Device programs, writing and reading them (points 75 and 76)."""

from phasor.errors import InvalidText
from phasor.gates import different_below, gate_text
from phasor.lowering import is_native
from phasor.reader import numbers_of, text_lines
from phasor.timing import time_steps

MAX_PLACES = 64

# The first words of the lines before the first step.
HEAD_WORDS = ("places", "start", "end", "turns")


def write_program(compiled):
    """Returns the device program of a result."""
    lines = [
        f"places {compiled.circuit.width}",
        _order_line("start", compiled.start),
        _order_line("end", compiled.end),
        f"turns {compiled.turns}",
    ]
    for gates in _gates_by_step(compiled.circuit.gates):
        lines.append("step")
        lines.extend([gate_text(gate) for gate in gates])
    return "".join([line + "\n" for line in lines])


def _order_line(word, order):
    return " ".join([word] + [str(place) for place in order])


def _gates_by_step(gates):
    """Returns the lists of the gates of the time steps from 1 on."""
    numbers = time_steps(gates)
    result = [[] for _ in range(max(numbers, default=0))]
    for number, gate in zip(numbers, gates):
        result[number - 1].append(gate)
    return result


class Program:
    """A program that was read: its orders, its turns and the gates of its steps."""

    def __init__(self, start, end, turns, groups):
        self.start = list(start)
        self.end = list(end)
        self.turns = turns
        self._groups = [list(group) for group in groups]

    @property
    def steps(self):
        """A new list with a new list of the gates of each step."""
        return [list(group) for group in self._groups]


def read_program(text, device):
    """Returns the program of a text for a device."""
    lines = text_lines(text)
    reader = ProgramReader(device)
    for number, line in enumerate(lines, start=1):
        if not reader.obey(number, line.split(" ")):
            raise InvalidText(number)
    if len(lines) < len(HEAD_WORDS) or lines[-1] == "step":
        raise InvalidText(len(lines) + 1)
    head = reader.head
    return Program(head["start"], head["end"], head["turns"][0], reader.groups)


class ProgramReader:
    """The state between two lines of a device program."""

    def __init__(self, device):
        self.device = device
        # The numbers of each of the first lines.
        self.head = {}
        # The gates of each step, and the places that the last one uses.
        self.groups = []
        self.used = []

    def obey(self, line, words):
        """Takes the line with this number. Returns False if it breaks a rule."""
        if line <= len(HEAD_WORDS):
            return self._take_head(HEAD_WORDS[line - 1], words)
        if words == ["step"]:
            return self._begin_step()
        return self._take_gate((words[0], numbers_of(words[1:])))

    def _take_head(self, word, words):
        self.head[word] = numbers_of(words[1:])
        return words[0] == word and self._head_fits(word, self.head[word])

    def _head_fits(self, word, numbers):
        """Returns True if these numbers can stand behind the first word of a line."""
        places = self.device.places
        if word == "places":
            return numbers == (places,) and places <= MAX_PLACES
        if word == "turns":
            return len(numbers) == 1 and 0 <= numbers[0] <= 7
        return len(numbers) == places and different_below(numbers, places)

    def _begin_step(self):
        if len(self.groups) > 0 and len(self.groups[-1]) == 0:
            return False
        self.groups.append([])
        self.used = []
        return True

    def _take_gate(self, gate):
        if len(self.groups) == 0 or not is_native(self.device, gate):
            return False
        for place in gate[1]:
            if place in self.used:
                return False
            self.used.append(place)
        self.groups[-1].append(gate)
        return True
