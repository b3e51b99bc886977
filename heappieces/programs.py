"""Programs: their names, and their statements as rows one behind another."""

ASSIGN = "assign"
READ = "read"
WRITE = "write"
NEW = "new"
FREE = "free"
IF = "if"
WHILE = "while"
ELSE = "else"
END = "end"

FIELDS = ("next", "data")


class Line:

    # first and second are what stands to the left and to the right (a name or "0"),
    # detail is the field or the sign of the question. A line that ends a block, or that
    # opens one which may be left out, tells by target at which line the run goes on then.
    def __init__(self, kind, first="", detail="", second=""):
        self.kind = kind
        self.first = first
        self.detail = detail
        self.second = second
        self.target = 0


class Program:

    def __init__(self, names, lines):
        self.names = names
        self.lines = lines
