"""Terms as text."""

from notslower.errors import BadText

KEY_WORDS = ("fun", "call", "let", "in", "make", "case", "of", "end", "ifzero", "tick", "waste", "hole")
LONGEST_NAME = 6
LONGEST_NUMBER = 5
LARGEST_NUMBER = 65535
MOST_AT_ONCE = 4
DEEPEST = 60

# The forms whose texts are their word and then only their parts, with the number of these.
PLAIN_FORMS = {"ifzero": 3, "+": 2, "-": 2, "*": 2, "/": 2, "<": 2, "=": 2, "tick": 1, "waste": 1}


def is_name(word):
    """True if the word is a name, otherwise False."""
    letters = word.isascii() and word.isalpha() and word.islower()
    return letters and len(word) <= LONGEST_NAME and word not in KEY_WORDS


def is_constructor(word):
    """True if the word is a constructor, otherwise False."""
    letters = word.isascii() and word.isalpha() and word.isupper()
    return letters and len(word) <= LONGEST_NAME


def is_numeral(word, longest):
    """True if the word has 1 to `longest` digits and no leading zero, otherwise False."""
    digits = word.isascii() and word.isdigit()
    return digits and len(word) <= longest and (word == "0" or word[0] != "0")


def is_number(word):
    """True if the word is a number as terms have them, otherwise False."""
    return is_numeral(word, LONGEST_NUMBER) and int(word) <= LARGEST_NUMBER


class Reader:
    """The words of a text, with the index of the next one to be read."""

    def __init__(self, words):
        self.words = words
        self.at = 0

    def ahead(self):
        """The next word, or the empty word if there is none."""
        # Behind the last word as before a word that does not fit, `at` is what BadText has to tell,
        # and the empty word fits nowhere: so the end needs no case of its own.
        if self.at == len(self.words):
            return ""
        return self.words[self.at]

    def take(self, fits):
        """The next word, which is read by this, if it fits."""
        if not fits:
            raise BadText(self.at)
        word = self.ahead()
        self.at += 1
        return word

    def take_word(self, wanted):
        """The next word, which has to be the wanted one."""
        return self.take(self.ahead() == wanted)

    def take_name(self, others):
        """The next word, which has to be a name that is none of the others."""
        word = self.ahead()
        return self.take(is_name(word) and word not in others)

    def take_constructor(self, others):
        """The next word, which has to be a constructor that is none of the others."""
        word = self.ahead()
        return self.take(is_constructor(word) and word not in others)


def read_names(reader, differ):
    """The tuple of the names in parentheses that come next; `differ` tells if they have to differ."""
    names = ()
    reader.take_word("(")
    while reader.ahead() != ")" and len(names) < MOST_AT_ONCE:
        names = names + (reader.take_name(names if differ else ()),)
    reader.take_word(")")
    return names


def read_make(reader):
    """The construction that comes next."""
    reader.take_word("make")
    constructor = reader.take_constructor(())
    return ("make", constructor, read_names(reader, False))


def read_let(reader, left):
    """The let that comes next, with parts of at most the depth that is left."""
    pairs = []
    reader.take_word("let")
    while not pairs or (reader.ahead() != "in" and len(pairs) < MOST_AT_ONCE):
        name = reader.take_name([pair[0] for pair in pairs])
        pairs.append((name, read_part(reader, left)))
    reader.take_word("in")
    return ("let", tuple(pairs), read_part(reader, left))


def read_case(reader, left):
    """The case that comes next, with parts of at most the depth that is left."""
    rows = []
    reader.take_word("case")
    first = read_part(reader, left)
    while not rows or (reader.ahead() == "of" and len(rows) < MOST_AT_ONCE):
        reader.take_word("of")
        constructor = reader.take_constructor([row[0] for row in rows])
        names = read_names(reader, True)
        rows.append((constructor, names, read_part(reader, left)))
    reader.take_word("end")
    return ("case", first, tuple(rows))


def read_deep(reader, left):
    """The term with parts that comes next, with parts of at most the depth that is left."""
    word = reader.ahead()
    if word == "let":
        return read_let(reader, left)
    if word == "case":
        return read_case(reader, left)
    reader.take(word in ("fun", "call") or word in PLAIN_FORMS)
    if word == "fun":
        name = reader.take_name(())
        return (word, name, read_part(reader, left))
    if word == "call":
        function = read_part(reader, left)
        return (word, function, reader.take_name(()))
    found = []
    for _ in range(PLAIN_FORMS[word]):
        found.append(read_part(reader, left))
    return (word, *found)


def read_part(reader, left):
    """The term that comes next, of at most the depth that is left."""
    word = reader.ahead()
    if is_name(word):
        return ("var", reader.take(True))
    if is_number(word):
        return ("number", int(reader.take(True)))
    if word == "hole":
        return (reader.take(True),)
    if word == "make":
        return read_make(reader)
    if left == 1:
        raise BadText(reader.at)
    return read_deep(reader, left - 1)


def read_whole(reader):
    """The term that comes next, as deep as terms that are read may be."""
    return read_part(reader, DEEPEST)


def read_all(text, read):
    """What a function reads, from a Reader, of all the words of a text. Raises BadText."""
    reader = Reader(text.split(" ") if text else [])
    found = read(reader)
    if reader.at < len(reader.words):
        raise BadText(reader.at)
    return found


def read_term(text):
    """The term that a text writes. Raises BadText."""
    return read_all(text, read_whole)


def pieces(term):
    """A list of the words of the term's own text, and in between its parts, in the order of the text."""
    word = term[0]
    if word == "var":
        return [term[1]]
    if word == "number":
        return [str(term[1])]
    if word == "make":
        return [word, term[1], "(", *term[2], ")"]
    if word == "let":
        pairs = [piece for pair in term[1] for piece in pair]
        return [word, *pairs, "in", term[2]]
    if word == "case":
        rows = []
        for constructor, names, part in term[2]:
            rows.extend(["of", constructor, "(", *names, ")", part])
        return [word, term[1], *rows, "end"]
    # All other terms stand in their text as in their data.
    return list(term)


def term_text(term):
    """The text of a term."""
    words = []
    waiting = [term]
    while waiting:
        piece = waiting.pop()
        if isinstance(piece, str):
            words.append(piece)
        else:
            waiting.extend(pieces(piece)[::-1])
    return " ".join(words)
