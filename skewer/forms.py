"""Programs, conditions and what else lines of games and edits have in common, read by a cursor."""

from skewer.syntax import MOST_DEPTH, MOST_FEW, MOST_PARTS, RESULTS

PROGRAM_WORDS = ("go", "empty", "own", "foe", "at", "take", "lay", "rest", "row", "either", "any")
CONDITION_WORDS = ("lacks", "foelacks", "holds", "foeholds", "stuck", "few", "not", "and", "or")


def read_program(cursor, ways, kinds):
    """Passes a program, and returns it; ways and kinds are lists of names."""
    return ProgramReader(cursor, ways, kinds).read(1)


class ProgramReader:
    """Reads one program, and counts its parts."""

    def __init__(self, cursor, ways, kinds):
        self.cursor = cursor
        self.ways = ways
        self.kinds = kinds
        self.parts = 0

    def read(self, depth):
        """Passes a part of the program that is nested so deep, and returns it."""
        word = self.read_word(depth)
        if word == "go":
            return (word, self.cursor.pass_known(self.ways))
        if word in ("at", "lay"):
            return (word, self.cursor.pass_known(self.kinds))
        if word in ("row", "either"):
            return (word, self.read_list(depth + 1))
        if word == "any":
            self.cursor.pass_text("(")
            inner = self.read(depth + 1)
            self.cursor.pass_text(")")
            return (word, inner)
        return (word,)

    def read_word(self, depth):
        """Passes the first token of a part."""
        word = self.cursor.text()
        if word not in PROGRAM_WORDS:
            self.cursor.refuse("expected")
        if depth > MOST_DEPTH:
            self.cursor.refuse("deep")
        self.parts += 1
        if self.parts > MOST_PARTS:
            self.cursor.refuse("parts")
        self.cursor.pass_token()
        return word

    def read_list(self, depth):
        """Passes programs in parentheses, perhaps none, and returns their list."""
        self.cursor.pass_text("(")
        if self.cursor.text() == ")":
            self.cursor.pass_token()
            return []
        programs = [self.read(depth)]
        while self.cursor.pass_one_of([",", ")"]) == ",":
            programs.append(self.read(depth))
        return programs


def read_clause(cursor, size, kinds):
    """Passes a result, `if` and a condition, and returns the pair (condition, result)."""
    result = cursor.pass_one_of(RESULTS)
    cursor.pass_text("if")
    return (read_condition(cursor, size, kinds, 1), result)


def read_condition(cursor, size, kinds, depth):
    """Passes a condition that is nested so deep, for a board with so many fields, and returns it."""
    word = cursor.text()
    if word not in CONDITION_WORDS:
        cursor.refuse("expected")
    if depth > MOST_DEPTH:
        cursor.refuse("deep")
    cursor.pass_token()
    if word == "stuck":
        return (word,)
    if word == "few":
        return (word, cursor.pass_number(0, MOST_FEW))
    if word in ("not", "and", "or"):
        inner = read_inner_conditions(cursor, size, kinds, depth + 1, word)
        return (word, *inner)
    kind = cursor.pass_known(kinds)
    if word in ("lacks", "foelacks"):
        return (word, kind)
    cursor.pass_text("on")
    return (word, kind, read_fields(cursor, size))


def read_inner_conditions(cursor, size, kinds, depth, word):
    """Passes what stands in parentheses behind `not`, `and` or `or`, and returns the list of the conditions."""
    cursor.pass_text("(")
    conditions = [read_condition(cursor, size, kinds, depth)]
    if word != "not":
        cursor.pass_text(",")
        conditions.append(read_condition(cursor, size, kinds, depth))
    cursor.pass_text(")")
    return conditions


def read_fields(cursor, size):
    """Passes ascending fields, at least one, and returns their list."""
    fields = [cursor.pass_number(0, size - 1)]
    while cursor.is_at_number():
        fields.append(cursor.pass_number(fields[-1] + 1, size - 1))
    return fields


def read_row_of_way(cursor, size):
    """Passes rows of fields up to the end of the line; returns the field, or -1, to which the way leads from each."""
    leads = [-1] * size
    if cursor.is_done():
        return leads
    field = cursor.pass_number(0, size - 1)
    while not cursor.is_done():
        if cursor.text() == ";":
            cursor.pass_token()
            field = cursor.pass_number(0, size - 1)
        else:
            # Only here is it known that the row goes on behind the field.
            if cursor.is_at_number() and leads[field] != -1:
                cursor.refuse_passed("twice")
            leads[field] = cursor.pass_number(0, size - 1)
            field = leads[field]
    return leads
