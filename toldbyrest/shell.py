"""Stores by name, and lines that tell what to do with them."""

from toldbyrest.errors import DuplicateName, InvalidLine, InvalidName, UnknownStore
from toldbyrest.schemas import is_name
from toldbyrest.stores import Store
from toldbyrest.texts import parse_book, parse_schema
from toldbyrest.told import rounds_needed

# How many words a line has that begins with a word, this one counted.
LINES = {
    "open": 5, "close": 2, "put": 5, "drop": 4, "turn": 5, "undo": 2, "show": 3, "sound": 2, "rounds": 4, "stores": 1,
}
DIGITS = "0123456789"
MOST_DIGITS = 9
LETTERS = {"y": True, "n": False, "u": None}
NOTHING = "-"


class Shell:
    """Stores by name, each with what it has been opened with."""

    def __init__(self):
        self._opened = {}

    def run(self, line):
        """Execute a line; return what it answers."""
        words = _words_of(line)
        if words[0] == "stores":
            return _listing(sorted(self._opened))
        if words[0] == "open":
            return self._begin(words[1], words[2], words[3], words[4])
        if words[1] not in self._opened:
            raise UnknownStore("no store has this name")
        if words[0] == "close":
            del self._opened[words[1]]
            return "ok"
        store, schema, book, lacking = self._opened[words[1]]
        if words[0] == "rounds":
            return str(rounds_needed(schema, book, lacking, words[2], words[3]))
        if words[0] == "show":
            # Asked for its error alone.
            schema.columns(words[2])
            return _listing([_row_text(values, flags) for values, flags in store.told[words[2]]])
        return _answer(store, words)

    def _begin(self, name, schema_text, book_text, lacking_text):
        """Open a store."""
        if not is_name(name):
            raise InvalidName("this is no name for a store")
        if name in self._opened:
            raise DuplicateName("a store with this name is open")
        schema = parse_schema(_text_of(schema_text))
        book = parse_book(schema, "" if book_text == NOTHING else _text_of(book_text))
        lacking = [] if lacking_text == NOTHING else [tuple(part.split(".")) for part in lacking_text.split(",")]
        self._opened[name] = (Store(schema, book, lacking), schema, book, lacking)
        return "ok"


def _words_of(line):
    """Return the list of the words of a line."""
    if not isinstance(line, str) or "\n" in line:
        raise InvalidLine("this is no line")
    words = line.split(" ")
    if "" in words or words[0] not in LINES or len(words) != LINES[words[0]]:
        raise InvalidLine("this is no line")
    return words


def _text_of(word):
    """Return the text that a word stands for."""
    return word.replace("/", "\n").replace(",", " ")


def _answer(store, words):
    """Return what a store answers to a line that is for it alone."""
    if words[0] == "put":
        return str(store.put(words[2], _values_of(words[3]), _flags_of(words[4])))
    if words[0] == "drop":
        return _turns(store.drop(words[2], _number_of(words[3])))
    if words[0] == "turn":
        return _turns(store.turn(words[2], _number_of(words[3]), words[4]))
    if words[0] == "sound":
        return "yes" if store.sound else "no"
    store.undo()
    return "ok"


def _number_of(word):
    """Return the integer that a word is, or None, which is no index and no value."""
    if len(word) > MOST_DIGITS or not all([letter in DIGITS for letter in word]):
        return None
    return int(word) if word == "0" or word[:1] not in ("", "0") else None


def _values_of(word):
    return tuple([_number_of(part) for part in word.split(",")])


def _flags_of(word):
    """Return the flags that a word tells, or None, which are no flags."""
    if word == NOTHING:
        return ()
    return tuple([LETTERS[letter] for letter in word]) if all([letter in LETTERS for letter in word]) else None


def _row_text(values, flags):
    letters = [letter for flag in flags for letter in LETTERS if LETTERS[letter] == flag]
    return ",".join([str(value) for value in values]) + ":" + ("".join(letters) or NOTHING)


def _turns(found):
    return _listing([f"{table}.{index}.{flag}" for table, index, flag in found])


def _listing(parts):
    return " ".join(parts) or "none"
