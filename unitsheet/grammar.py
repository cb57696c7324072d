"""The tokens of a sheet, read as items.

An expression is kept as steps, left to right, what something is made of before it: so it can be gone through
by a loop with a stack, however long it is. A step is a pair, what it is and what goes with it:

    ("number", its token)    ("name", the name)    ("call", (the function's name, how many it is called with))
    ("^", the power, with its sign)    ("minus", None), a - before a factor
    ("+", None)    ("-", None)    ("*", None)    ("/", None)
    ("<", None), behind the two about <    ("if", None), behind the one behind else
"""

from unitsheet.refusals import NoSheet
from unitsheet.tokens import is_name, is_number

DEEPEST = 32
ITEM_WORDS = ("unit", "let", "fn")
POWERS = ("1", "2", "3", "4", "5", "6", "7", "8", "9")


class Item:
    def __init__(self, word, name, parameters, steps):
        self.word = word
        self.name = name
        self.parameters = parameters
        self.steps = steps


def items_of(tokens):
    reader = Reader(tokens)
    items = []
    while reader.at < len(tokens):
        items.append(reader.read_item())
    return items


def check_depth(depth):
    if depth > DEEPEST:
        raise NoSheet()


# Goes through the tokens once. How deep its calls lie within one another is bound by DEEPEST.
class Reader:
    def __init__(self, tokens):
        self.tokens = tokens
        self.at = 0
        self.steps = []

    def seen(self):
        return self.tokens[self.at] if self.at < len(self.tokens) else ""

    def take(self):
        token = self.seen()
        self.at += 1
        return token

    def take_if(self, token):
        if self.seen() != token:
            return False
        self.at += 1
        return True

    def expect(self, token):
        if not self.take_if(token):
            raise NoSheet()

    def take_name(self):
        token = self.take()
        if not is_name(token):
            raise NoSheet()
        return token

    def read_item(self):
        word = self.take()
        if word not in ITEM_WORDS:
            raise NoSheet()
        name = self.take_name()
        parameters = []
        self.steps = []
        if word == "fn":
            parameters = self.read_parameters()
        if word != "unit":
            self.expect("=")
            self.read_expression(1)
        self.expect(";")
        return Item(word, name, parameters, self.steps)

    def read_parameters(self):
        self.expect("(")
        if self.take_if(")"):
            return []
        parameters = [self.take_name()]
        while self.take_if(","):
            parameters.append(self.take_name())
        self.expect(")")
        return parameters

    def read_expression(self, depth):
        check_depth(depth)
        if self.take_if("if"):
            self.read_choice(depth)
        else:
            self.read_sum(depth)

    def read_choice(self, depth):
        self.read_sum(depth)
        self.expect("<")
        self.read_sum(depth)
        self.steps.append(("<", None))
        self.expect("then")
        self.read_expression(depth + 1)
        self.expect("else")
        self.read_expression(depth + 1)
        self.steps.append(("if", None))

    def read_sum(self, depth):
        self.read_term(depth)
        while self.seen() in ("+", "-"):
            sign = self.take()
            self.read_term(depth)
            self.steps.append((sign, None))

    def read_term(self, depth):
        self.read_power(depth)
        while self.seen() in ("*", "/"):
            sign = self.take()
            self.read_power(depth)
            self.steps.append((sign, None))

    def read_power(self, depth):
        self.read_factor(depth)
        if self.take_if("^"):
            below = self.take_if("-")
            digit = self.take()
            if digit not in POWERS:
                raise NoSheet()
            self.steps.append(("^", -int(digit) if below else int(digit)))

    def read_factor(self, depth):
        token = self.take()
        if is_number(token):
            self.steps.append(("number", token))
        elif is_name(token):
            self.read_name(token, depth)
        elif token == "(":
            self.read_expression(depth + 1)
            self.expect(")")
        elif token == "-":
            check_depth(depth + 1)
            self.read_factor(depth + 1)
            self.steps.append(("minus", None))
        else:
            raise NoSheet()

    def read_name(self, name, depth):
        if self.take_if("("):
            count = self.read_call(depth)
            self.steps.append(("call", (name, count)))
        else:
            self.steps.append(("name", name))

    # How many a function is called with.
    def read_call(self, depth):
        if self.take_if(")"):
            return 0
        self.read_expression(depth + 1)
        count = 1
        while self.take_if(","):
            self.read_expression(depth + 1)
            count += 1
        self.expect(")")
        return count
