"""Steps and libraries as lines."""

from notslower.derivation import TOLD, kind_of
from notslower.errors import BadLine, BadText
from notslower.text import is_numeral, read_all, read_whole, term_text

LONGEST_NUMBER = 3
RULE_STEPS = ("go", "back")
CLAIM_STEPS = ("claim", "undo")

# What the first line of an entry has behind its word.
HEADS = {
    "derived": ("index",), "context": ("index",), "chain": ("index", "index"),
    "recursion": ("index", "index", "pairs")}


def words_of(thing):
    """A list of the words of a number or a name, or of a tuple of these."""
    if isinstance(thing, tuple):
        return [str(len(thing)), *[str(item) for item in thing]]
    return [str(thing)]


def step_line(step):
    """The line of a step."""
    words = [step[0], *words_of(step[1])]
    if step[0] in CLAIM_STEPS:
        return " ".join([*words, str(step[2])])
    words.append(step[2])
    for thing in step[3]:
        words.extend(words_of(thing))
    if step[0] == "back":
        words.append(term_text(step[4]))
    return " ".join(words)


def pairs_words(pairs):
    """A list of the words of pairs of names, with their number in front."""
    return [str(len(pairs)), *[name for pair in pairs for name in pair]]


def entry_lines(entry):
    """A list of the lines of an entry of a library."""
    word = entry[0]
    if word == "derived":
        return [f"derived {len(entry[2])}", term_text(entry[1]), *[step_line(step) for step in entry[2]]]
    if word == "context":
        return [f"context {entry[1]}", term_text(entry[2])]
    if word == "chain":
        return [f"chain {entry[1]} {entry[2]}"]
    words = ["recursion", str(entry[1]), str(entry[2]), *pairs_words(entry[4])]
    return [" ".join(words), term_text(entry[3])]


def library_lines(entries):
    """The list of the lines of a library."""
    return [line for entry in entries for line in entry_lines(entry)]


def read_least(reader, least):
    """The number that comes next, which has to be at least the given one."""
    word = reader.ahead()
    return int(reader.take(is_numeral(word, LONGEST_NUMBER) and int(word) >= least))


def read_number(reader):
    """The number that comes next."""
    return read_least(reader, 0)


def read_numbers(reader):
    """The tuple of the numbers that come next, with how many there are in front."""
    found = []
    for _ in range(read_number(reader)):
        found.append(read_number(reader))
    return tuple(found)


def read_name(reader):
    """The name that comes next."""
    return reader.take_name(())


def read_some_names(reader):
    """The tuple of the names that come next, with how many there are, at least one, in front."""
    found = []
    for _ in range(read_least(reader, 1)):
        found.append(read_name(reader))
    return tuple(found)


def read_pairs(reader):
    """The tuple of the pairs of names that come next, with how many there are in front."""
    found = []
    for _ in range(read_number(reader)):
        name = read_name(reader)
        found.append((name, read_name(reader)))
    return tuple(found)


READINGS = {
    "index": read_number, "indexes": read_numbers, "name": read_name, "names": read_some_names,
    "pairs": read_pairs}


def read_things(reader, forms):
    """The tuple of what comes next, of the given forms."""
    found = []
    for form in forms:
        read = READINGS[form]
        found.append(read(reader))
    return tuple(found)


def read_whole_step(reader):
    """The step that comes next."""
    word = reader.ahead()
    reader.take(word in RULE_STEPS or word in CLAIM_STEPS)
    place = read_numbers(reader)
    if word in CLAIM_STEPS:
        return (word, place, read_number(reader))
    rule = reader.ahead()
    reader.take(kind_of(rule) is not None)
    given = read_things(reader, TOLD.get(rule, ()))
    if word == "go":
        return (word, place, rule, given)
    return (word, place, rule, given, read_whole(reader))


def read_head(reader):
    """The tuple of what the first line of an entry has."""
    word = reader.ahead()
    reader.take(word in HEADS)
    return (word, *read_things(reader, HEADS[word]))


class Source:
    """Lines, with the index of the next one to be read."""

    def __init__(self, lines):
        self.lines = lines
        self.at = 0

    def take(self, read):
        """What a function reads, from a Reader, of the next line, which is read by this. Raises BadLine."""
        if self.at == len(self.lines):
            raise BadLine(self.at)
        try:
            found = read_all(self.lines[self.at], read)
        except BadText:
            raise BadLine(self.at)
        self.at += 1
        return found


def read_entry(source):
    """The entry of a library that comes next."""
    head = source.take(read_head)
    if head[0] == "chain":
        return head
    term = source.take(read_whole)
    if head[0] == "context":
        return (*head, term)
    if head[0] == "recursion":
        return (*head[:3], term, head[3])
    steps = []
    for _ in range(head[1]):
        steps.append(source.take(read_whole_step))
    return ("derived", term, tuple(steps))


def read_step(line):
    """The step that a line writes. Raises BadLine."""
    return Source([line]).take(read_whole_step)


def read_library(lines):
    """The list of the entries that lines write. Raises BadLine."""
    source = Source(lines)
    entries = []
    while source.at < len(lines):
        entries.append(read_entry(source))
    return entries
