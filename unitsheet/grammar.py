"""The tokens of a sheet, read as items, and those of a formula.

An expression is kept as steps, left to right, what something is made of before it: so it can be gone through
by a loop with a stack, however long it is. A step is a pair, what it is and what goes with it:

    ("number", its fraction)    ("name", the name)    ("call", (the function's name, how many it is called with))
    ("^", the power, with its sign)    ("minus", None), a - before a factor
    ("+", None)    ("-", None)    ("*", None)    ("/", None)
    ("<", where the one behind else begins), behind the two about <
    ("else", where the one behind else ends), behind the one behind then    ("if", None), behind the one behind else

Beside the steps stands what begins at each: how many numbers, names, calls, signs and ifs have it as their first
step. They are what is counted before anything in them is worked out.
"""

from unitsheet.fraction import written_fraction
from unitsheet.refusals import NoSheet
from unitsheet.tokens import is_name, is_number

DEEPEST = 32
ITEM_WORDS = ("unit", "let", "fn")
POWERS = ("1", "2", "3", "4", "5", "6", "7", "8", "9")


class Item:
    def __init__(self, word, name, parameters, steps, begins):
        self.word = word
        self.name = name
        self.parameters = parameters
        self.steps = steps
        self.begins = begins


def items_of(tokens):
    reader = Reader(tokens)
    items = []
    while reader.at < len(tokens):
        items.append(reader.read_item())
    return items


# A formula as an amount whose name is none that a sheet could have.
def formula_of(tokens):
    reader = Reader(tokens)
    reader.read_expression(1)
    if reader.at < len(tokens):
        raise NoSheet()
    return Item("let", "", [], reader.steps, reader.begins)


def check_depth(depth):
    if depth > DEEPEST:
        raise NoSheet()


# Goes through the tokens once. How deep its calls lie within one another is bound by DEEPEST.
class Reader:
    def __init__(self, tokens):
        self.tokens = tokens
        self.at = 0
        self.steps = []
        self.begins = []

    # A step that makes one of all since the step with the number start.
    def put(self, what, detail, start):
        self.steps.append((what, detail))
        self.begins.append(0)
        self.begins[start] += 1

    # A step that only belongs to an if, and isn't counted by itself. Answers its number.
    def put_jump(self, what):
        self.steps.append((what, None))
        self.begins.append(0)
        return len(self.steps) - 1

    # Lets it go on at the step that comes next.
    def set_jump(self, number):
        self.steps[number] = (self.steps[number][0], len(self.steps))

    def seen(self):
        return self.tokens[self.at] if self.at < len(self.tokens) else ""

    def take(self):
        token = self.seen()
        self.at += 1
        return token

    def take_if(self, token):
        if self.seen() != token:
            return False
        self.at += 1
        return True

    def expect(self, token):
        if not self.take_if(token):
            raise NoSheet()

    def take_name(self):
        token = self.take()
        if not is_name(token):
            raise NoSheet()
        return token

    def read_item(self):
        word = self.take()
        if word not in ITEM_WORDS:
            raise NoSheet()
        name = self.take_name()
        parameters = []
        self.steps = []
        self.begins = []
        if word == "fn":
            parameters = self.read_parameters()
        if word != "unit":
            self.expect("=")
            self.read_expression(1)
        self.expect(";")
        return Item(word, name, parameters, self.steps, self.begins)

    def read_parameters(self):
        self.expect("(")
        if self.take_if(")"):
            return []
        parameters = [self.take_name()]
        while self.take_if(","):
            parameters.append(self.take_name())
        self.expect(")")
        return parameters

    def read_expression(self, depth):
        check_depth(depth)
        if self.take_if("if"):
            self.read_choice(depth)
        else:
            self.read_sum(depth)

    def read_choice(self, depth):
        start = len(self.steps)
        self.read_sum(depth)
        self.expect("<")
        self.read_sum(depth)
        less = self.put_jump("<")
        self.expect("then")
        self.read_expression(depth + 1)
        otherwise = self.put_jump("else")
        self.set_jump(less)
        self.expect("else")
        self.read_expression(depth + 1)
        self.set_jump(otherwise)
        self.put("if", None, start)

    def read_sum(self, depth):
        start = len(self.steps)
        self.read_term(depth)
        while self.seen() in ("+", "-"):
            sign = self.take()
            self.read_term(depth)
            self.put(sign, None, start)

    def read_term(self, depth):
        start = len(self.steps)
        self.read_power(depth)
        while self.seen() in ("*", "/"):
            sign = self.take()
            self.read_power(depth)
            self.put(sign, None, start)

    def read_power(self, depth):
        start = len(self.steps)
        self.read_factor(depth)
        if self.take_if("^"):
            below = self.take_if("-")
            digit = self.take()
            if digit not in POWERS:
                raise NoSheet()
            self.put("^", -int(digit) if below else int(digit), start)

    def read_factor(self, depth):
        start = len(self.steps)
        token = self.take()
        if is_number(token):
            self.put("number", written_fraction(token), start)
        elif is_name(token):
            self.read_name(token, depth)
        elif token == "(":
            self.read_expression(depth + 1)
            self.expect(")")
        elif token == "-":
            check_depth(depth + 1)
            self.read_factor(depth + 1)
            self.put("minus", None, start)
        else:
            raise NoSheet()

    def read_name(self, name, depth):
        start = len(self.steps)
        if self.take_if("("):
            count = self.read_call(depth)
            self.put("call", (name, count), start)
        else:
            self.put("name", name, start)

    # How many a function is called with.
    def read_call(self, depth):
        if self.take_if(")"):
            return 0
        self.read_expression(depth + 1)
        count = 1
        while self.take_if(","):
            self.read_expression(depth + 1)
            count += 1
        self.expect(")")
        return count
