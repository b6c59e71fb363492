"""Texts of conditions, books and schemas, and what has a text."""

from toldbyrest.books import MOST_RULES
from toldbyrest.conditions import FORMS, begins_well, parts_within, table_within, words_of
from toldbyrest.errors import InvalidSchema, ParseError
from toldbyrest.schemas import Schema, is_name

# For each word that a line of a schema begins with: how many names stand behind it.
MANY_NAMES = {"table": 1, "column": 2, "flag": 1}


def format_condition(condition):
    """Return the text of a condition."""
    words = []
    waiting = [condition]
    while waiting:
        part = waiting.pop()
        words.extend(words_of(part))
        # The first one is to come next, so it is put last.
        waiting.extend(parts_within(part)[::-1])
    return " ".join(words)


def format_book(book):
    """Return the text of a book, a line for each rule."""
    return "\n".join([f"{table} {format_condition(condition)}" for table, condition in book])


def format_schema(schema):
    """Return the text of a schema, a line for each table, column and flag."""
    lines = []
    for table in schema.tables:
        lines.append(f"table {table}")
        lines.extend([f"column {name} {kind}" for name, kind in schema.columns(table)])
        lines.extend([f"flag {flag}" for flag in schema.flags(table)])
    return "\n".join(lines)


def parse_condition(schema, table, text):
    """Return the condition of a table that has a text."""
    # Asked of the schema for its error, which comes first.
    schema.columns(table)
    condition = _condition_of(schema, table, _checked(text))
    if condition is None:
        raise ParseError(0)
    return condition


def parse_book(schema, text):
    """Return the book that has a text."""
    # The empty text is that of no rule, not that of an empty line.
    lines = [] if text == "" else _checked(text).split("\n")
    book = []
    for index, line in enumerate(lines):
        rule = _rule_of(schema, line)
        if rule is None:
            raise ParseError(index)
        book.append(rule)
    if len(book) > MOST_RULES:
        raise ParseError(len(lines))
    return book


def parse_schema(text):
    """Return the schema that has a text."""
    lines = _checked(text).split("\n")
    for index, line in enumerate(lines):
        if not _is_line_of_schema(line.split(" ")):
            raise ParseError(index)
    try:
        schema = Schema(_tables_of([line.split(" ") for line in lines]))
    except InvalidSchema:
        raise ParseError(len(lines)) from None
    # Lines in a wrong order, or ahead of all tables, make a schema that has another text.
    if format_schema(schema) != text:
        raise ParseError(len(lines))
    return schema


def _checked(text):
    if not isinstance(text, str):
        raise ParseError(0)
    return text


def _rule_of(schema, line):
    """Return the rule that has a line, or None."""
    table, _, text = line.partition(" ")
    if table not in schema.tables:
        return None
    condition = _condition_of(schema, table, text)
    return None if condition is None else (table, condition)


def _condition_of(schema, table, text):
    """Return the condition of a table that has a text, or None.

    Neither of the two steps calls itself for the conditions within: a text of many words
    may be one of conditions, or of none, that lie deeper than calls can.
    """
    heads = _heads_of(schema, table, text.split(" "))
    return None if heads is None else _put_together(heads)


def _heads_of(schema, table, words):
    """Return the list of what stands ahead of the conditions within, for each condition that begins."""
    heads = []
    at = 0
    # The tables of the conditions that are to come, the next one last.
    waiting = [table]
    while waiting:
        own = waiting.pop()
        head = _head_at(schema, own, words, at)
        if head is None:
            return None
        heads.append(head)
        at += len(head)
        waiting.extend([table_within(own, head)] * FORMS[head[0]][1])
    return heads if at == len(words) else None


def _head_at(schema, table, words, at):
    if at == len(words) or words[at] not in FORMS:
        return None
    many_words, many_parts = FORMS[words[at]]
    head = tuple(words[at:at + many_words])
    return head if begins_well(schema, table, head + (None,) * many_parts) else None


def _put_together(heads):
    """Return the condition that begins first, with all the others in their places."""
    built = []
    for head in reversed(heads):
        first = len(built) - FORMS[head[0]][1]
        parts = built[first:]
        del built[first:]
        # Built from behind, so the first one within was built last.
        built.append(head + tuple(parts[::-1]))
    return built[0]


def _is_line_of_schema(words):
    if words[0] not in MANY_NAMES or len(words) != MANY_NAMES[words[0]] + 1:
        return False
    return all([is_name(word) for word in words[1:]])


def _tables_of(lines):
    # These two take what stands ahead of all tables; nothing becomes of it.
    columns, flags = [], []
    tables = {}
    for words in lines:
        if words[0] == "table":
            columns, flags = [], []
            tables[words[1]] = (columns, flags)
        elif words[0] == "column":
            columns.append((words[1], words[2]))
        else:
            flags.append(words[1])
    return {table: (tuple(parts[0]), tuple(parts[1])) for table, parts in tables.items()}
