"""Scripts: the texts of records, and commands for a store (points 270 to 272)."""

from sinktree.decimals import is_decimal, is_signed_decimal
from sinktree.disk import Disk
from sinktree.errors import BadProgram, BadText, DiskFull, SinkError
from sinktree.nodes import is_key
from sinktree.schemas import is_value
from sinktree.store import Store

# The least and the greatest value of an integer field have so many digits, and perhaps a sign.
INTEGER_MOST = 11
KEEP_MOST = 12
# How many words each command has, itself included; the last word of some is the rest of the line.
WORDS = {"put": 3, "drop": 2, "run": 3, "get": 2, "scan": 3, "sync": 1, "checkpoint": 1, "crash": 2, "deeds": 1}
WITH_REST = ("put", "run")
WITH_KEY = ("put", "drop", "run", "get")


class Refusal(SinkError):
    """A command that is not possible, with the reason."""

    def __init__(self, reason):
        self.reason = reason


def record_text(schema, record):
    """Return the text of a record."""
    return ", ".join([value_text(kind, value) for (_, kind), value in zip(schema, record)])


def value_text(kind, value):
    """Return the text of a value of a field's kind."""
    if kind[0] == "flag":
        return "true" if value else "false"
    if kind[0] == "text":
        return '"' + value.replace("\\", "\\\\").replace('"', '\\"') + '"'
    return str(value)


def parse_record(schema, text):
    """Return the record with this text, or raise BadText if there is none."""
    if not isinstance(text, str):
        raise BadText(0)
    values = []
    place = 0
    for index, (_, kind) in enumerate(schema):
        if index > 0:
            place = place_behind(text, place, ", ")
        end = value_end(text, place)
        values.append(value_from(kind, text[place:end]))
        place = end
    if place != len(text):
        raise BadText(0)
    return tuple(values)


def place_behind(text, place, expected):
    """Return the place behind what is expected to stand at this place."""
    end = place + len(expected)
    if text[place:end] != expected:
        raise BadText(0)
    return end


def value_end(text, place):
    """Return the place behind the value that begins at this place."""
    if text[place:place + 1] == '"':
        return quoted_end(text, place + 1)
    end = text.find(",", place)
    return len(text) if end == -1 else end


def quoted_end(text, place):
    """Return the place behind the quote that closes the text whose characters begin at this place."""
    while text[place:place + 1] != '"':
        if place >= len(text):
            raise BadText(0)
        # A backslash takes the character behind it with it.
        place += 2 if text[place] == "\\" else 1
    return place + 1


def value_from(kind, raw):
    """Return the value of a field's kind with this text."""
    value = raw
    if kind[0] == "flag":
        value = raw == "true"
    elif kind[0] == "int":
        value = int(raw) if is_signed_decimal(raw) and len(raw) <= INTEGER_MOST else None
    elif kind[0] == "text":
        value = raw[1:-1].replace('\\"', '"').replace("\\\\", "\\")
    # Only what has this very text is the value.
    if not is_value(kind, value) or value_text(kind, value) != raw:
        raise BadText(0)
    return value


def run_script(schema, sectors, text):
    """Run the commands of a script on a new disk with so many sectors; return the list of printed lines."""
    session = Session(schema, sectors)
    printed = []
    for index, line in enumerate(text.split("\n")):
        if line != "" and not line.startswith("#"):
            printed.extend(session.lines_of(index + 1, line))
    return printed


def words_of(line):
    """Return the words of a command, or raise Refusal if they are none."""
    words = line.split(" ")
    if words[0] in WITH_REST:
        words = line.split(" ", 2)
    if words[0] not in WORDS or len(words) != WORDS[words[0]]:
        raise Refusal("command")
    return words


def survivors_from(word):
    """Return which pending writes survive a crash, as a list of flags."""
    if not is_decimal(word) or len(word) > KEEP_MOST:
        raise Refusal("keep")
    keep = int(word)
    survivors = []
    while keep > 0:
        survivors.append(keep % 2 == 1)
        keep = keep // 2
    return survivors


class Session:
    """A store on a disk of its own, for the commands of a script."""

    def __init__(self, schema, sectors):
        self.schema = schema
        self.disk = Disk(sectors)
        self.records = Store(self.disk, schema)

    def lines_of(self, number, line):
        """Run the command in the line with this number; return what is printed."""
        try:
            return self.answer(words_of(line))
        except Refusal as refusal:
            return [f"line {number} {refusal.reason}"]

    def answer(self, words):
        """Run a command; return what is printed, or raise Refusal if it is not possible."""
        head = words[0]
        if head in WITH_KEY and not is_key(words[1]):
            raise Refusal("key")
        if head == "get":
            return [self.record_line(words[1], self.records.get(words[1]))]
        if head == "scan":
            return [self.record_line(key, record) for key, record in self.records.scan(words[1], words[2])] + ["end"]
        if head == "crash":
            # What is raised here when the store is opened is no refusal.
            self.restart(survivors_from(words[1]))
        if head in ("crash", "deeds"):
            return [f"deeds {self.records.deeds()}"]
        try:
            self.change(words)
        except DiskFull:
            raise Refusal("full") from None
        return []

    def change(self, words):
        """Run a command that prints nothing."""
        if words[0] == "put":
            self.put(words[1], words[2])
        elif words[0] == "drop":
            self.records.drop(words[1])
        elif words[0] == "run":
            self.run(words[1], words[2])
        elif words[0] == "sync":
            self.records.sync()
        else:
            self.records.checkpoint()

    def put(self, key, values):
        """Put the record with this text under a key."""
        try:
            record = parse_record(self.schema, values)
        except BadText:
            raise Refusal("values") from None
        self.records.put(key, record)

    def run(self, key, program):
        """Run the program with this text on the record of a key."""
        try:
            self.records.run(key, program)
        except BadText:
            raise Refusal("text") from None
        except BadProgram:
            raise Refusal("program") from None

    def restart(self, survivors):
        """Let the power fail, and open the store again."""
        self.disk.crash(survivors)
        self.records = Store(self.disk, self.schema)

    def record_line(self, key, record):
        """Return the line that shows the record of a key, or that there is none."""
        if record is None:
            return f"{key} none"
        return f"{key} {record_text(self.schema, record)}"
