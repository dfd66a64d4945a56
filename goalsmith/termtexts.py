"""Terms and grounds, written and read."""

from goalsmith.cursors import Cursor
from goalsmith.errors import NoText
from goalsmith.grounds import Ground
from goalsmith.terms import MOST_DEEP, is_great, is_term


def show_term(term):
    """A term's text."""
    return written(term, ())


def written(term, around):
    """A term's text within what binds these names with kinds, the nearest first."""
    if term[0] == "name":
        return f"{term[1]}:{term[2]}"
    if term[0] == "bound":
        x, kind = around[term[1]]
        return f"{x}:{kind}"
    return _put_to(term[1], [written(part, around) for part in term[2]])


def _put_to(f, texts):
    row = ", ".join(texts)
    return f"{f}({row})" if texts else f


def show_ground(ground):
    """A ground's text."""
    rows = [_kind_row(kind, makers) for kind, makers in ground.kinds()]
    rows.extend([_work_row(*work) for work in ground.works()])
    return "".join([row + "\n" for row in rows])


def _kind_row(kind, makers):
    row = "; ".join([_put_to(f, takes) for f, takes in makers])
    return f"kind {kind}: {row}" if makers else f"kind {kind}"


def _work_row(f, takes, gives, at, rights):
    head = f"work {_put_to(f, takes)} {gives}"
    row = "; ".join([show_term(right) for right in rights])
    if at is not None:
        return f"{head} at {at}: {row}"
    return f"{head} = {row}" if rights else head


def read_term(ground, text):
    """The term of the ground of which a thing is the text."""
    cursor = Cursor(text)
    term = term_at(cursor, MOST_DEEP)
    cursor.need_end()
    if not is_term(ground, term) or is_great(term):
        raise NoText("this is no text of a term of the ground that is not great")
    return term


def term_at(cursor, room):
    """Read what is written like a term, in which at most so many tuples as there is room stand one within another."""
    if room == 0:
        raise NoText("too many terms stand here one within another")
    word = cursor.name()
    if cursor.passes(":"):
        return ("name", word, cursor.name())
    if not cursor.passes("("):
        return ("made", word, ())
    parts = [term_at(cursor, room - 1)]
    while cursor.passes(", "):
        parts.append(term_at(cursor, room - 1))
    cursor.need(")")
    return ("made", word, tuple(parts))


def read_ground(text):
    """The ground of which a thing is the text."""
    cursor = Cursor(text)
    kinds = []
    while cursor.passes("kind "):
        kinds.append(_kind_at(cursor))
    works = []
    while cursor.passes("work "):
        works.append(_work_at(cursor))
    cursor.need_end()
    return Ground(kinds, works)


def _kind_at(cursor):
    kind = cursor.name()
    makers = []
    if cursor.passes(": "):
        makers.append(_put_to_at(cursor))
        while cursor.passes("; "):
            makers.append(_put_to_at(cursor))
    cursor.need("\n")
    return (kind, makers)


def _put_to_at(cursor):
    """Read a maker or a work with the kinds that it takes."""
    f = cursor.name()
    takes = []
    if cursor.passes("("):
        takes.append(cursor.name())
        while cursor.passes(", "):
            takes.append(cursor.name())
        cursor.need(")")
    return (f, takes)


def _work_at(cursor):
    f, takes = _put_to_at(cursor)
    cursor.need(" ")
    gives = cursor.name()
    at = None
    rights = []
    if cursor.passes(" = "):
        rights.append(_right_at(cursor))
    elif cursor.passes(" at "):
        at = cursor.figure()
        cursor.need(": ")
        rights.append(_right_at(cursor))
        while cursor.passes("; "):
            rights.append(_right_at(cursor))
    cursor.need("\n")
    return (f, takes, gives, at, rights)


def _right_at(cursor):
    right = term_at(cursor, MOST_DEEP)
    if is_great(right):
        raise NoText("a right is too long for a term")
    return right
