"""Reading and writing the text form of circuits (points 11 to 13)."""

from phasor.circuit import Circuit
from phasor.errors import InvalidText, TooLarge
from phasor.gates import different_below, gate_fits, gate_text, moved_gates
from phasor.macros import MACROS, macro_fits, macro_gates

MAX_GATES = 5000

MAX_QUBITS = 64

DIGITS = "0123456789"

LETTERS = "abcdefghijklmnopqrstuvwxyz"


def read_circuit(text):
    """Returns the circuit of a text."""
    lines = text_lines(text)
    reader = CircuitReader()
    for number, line in enumerate(lines, start=1):
        if line != "" and not line.startswith("#"):
            reader.read_line(number, line.split(" "))
    return reader.finish(len(lines))


def write_circuit(circuit):
    """Returns the text of a circuit."""
    lines = ["qubits " + str(circuit.width) + "\n"]
    for gate in circuit.gates:
        lines.append(gate_text(gate) + "\n")
    return "".join(lines)


def text_lines(text):
    """Returns the list of the lines of a text, without their newlines."""
    lines = text.split("\n")
    # Behind a last newline no line follows, and an empty text has no lines.
    if lines[-1] == "":
        lines.pop()
    return lines


def number_of(word):
    """Returns the value of a number, or -1 if the word is not a number."""
    if len(word) < 1 or len(word) > 6 or not _consists_of(word, DIGITS):
        return -1
    if word[0] == "0" and word != "0":
        return -1
    return int(word)


def is_name(word):
    """Returns True if the word is a name, otherwise False."""
    return 1 <= len(word) <= 12 and _consists_of(word, LETTERS)


def _consists_of(word, characters):
    for character in word:
        if character not in characters:
            return False
    return True


def numbers_of(words):
    """Returns the tuple of the values of the words, -1 for those that are not numbers."""
    return tuple([number_of(word) for word in words])


class Frame:
    """The circuit, or a block or a definition that has not ended, with its gates."""

    def __init__(self, line, width, *, times=1, name=""):
        self.line = line
        self.width = width
        self.times = times
        # Only definitions have a name.
        self.name = name
        self.body = []

    def append_gates(self, gates, times):
        """Appends the gates as often as times says."""
        if len(self.body) + len(gates) * times > MAX_GATES:
            raise TooLarge("there are too many gates")
        self.body.extend(gates * times)


class CircuitReader:
    """The state between two lines of a circuit text."""

    def __init__(self):
        # The first frame is the circuit, the last one is the innermost.
        self.frames = []
        # The width and the gates of each definition that has ended.
        self.defined = {}

    def read_line(self, line, words):
        """Executes the line with this number, which has these words."""
        if not self._obey(line, words):
            raise InvalidText(line)

    def finish(self, count):
        """Returns the circuit after all lines, whose number is given."""
        if len(self.frames) == 0:
            raise InvalidText(count + 1)
        inner = self.frames[-1]
        if len(self.frames) > 1:
            raise InvalidText(inner.line)
        return Circuit(inner.width, inner.body)

    def _obey(self, line, words):
        """Executes a line. Returns False, and changes nothing, if it breaks a rule."""
        if len(self.frames) == 0:
            return self._begin_circuit(line, words)
        word = words[0]
        if word == "repeat":
            return self._begin_block(line, words)
        if word == "define":
            return self._begin_definition(line, words)
        if word == "end":
            return self._end(words)
        if word == "call":
            return self._call(words)
        if word in MACROS:
            return self._add_macro(words)
        return self._add_gate(words)

    def _begin_circuit(self, line, words):
        if len(words) != 2 or words[0] != "qubits":
            return False
        width = number_of(words[1])
        if width < 1 or width > MAX_QUBITS:
            return False
        self.frames.append(Frame(line, width))
        return True

    def _begin_block(self, line, words):
        if len(words) != 2 or number_of(words[1]) < 0:
            return False
        width = self.frames[-1].width
        self.frames.append(Frame(line, width, times=number_of(words[1])))
        return True

    def _begin_definition(self, line, words):
        if len(words) != 3 or len(self.frames) > 1:
            return False
        name = words[1]
        width = number_of(words[2])
        if not is_name(name) or name in self.defined:
            return False
        if width < 1 or width > MAX_QUBITS:
            return False
        self.frames.append(Frame(line, width, name=name))
        return True

    def _end(self, words):
        if len(words) != 1 or len(self.frames) == 1:
            return False
        ended = self.frames.pop()
        if ended.name != "":
            self.defined[ended.name] = (ended.width, ended.body)
        else:
            self.frames[-1].append_gates(ended.body, ended.times)
        return True

    def _call(self, words):
        if len(words) < 2 or words[1] not in self.defined:
            return False
        places = numbers_of(words[2:])
        width, body = self.defined[words[1]]
        inner = self.frames[-1]
        if len(places) != width or not different_below(places, inner.width):
            return False
        inner.append_gates(moved_gates(body, places), 1)
        return True

    def _add_macro(self, words):
        inner = self.frames[-1]
        qubits = numbers_of(words[1:])
        if not macro_fits(words[0], qubits) or not different_below(qubits, inner.width):
            return False
        inner.append_gates(macro_gates(words[0], qubits), 1)
        return True

    def _add_gate(self, words):
        inner = self.frames[-1]
        gate = (words[0], numbers_of(words[1:]))
        if not gate_fits(gate, inner.width):
            return False
        inner.append_gates([gate], 1)
        return True
