"""Another way to tell where the reading of an item or a value fails, for the tests of the parser.

The grammar of the document is written down as plain rules, and the tokens are followed through it with sets of
states (Earley's way), without any of the program's own steps. Nesting and the number of tokens are left aside.
"""

ITEM = """
item = import | data | trait | impl | def
import = 'import' NAME ':' NAME names
names = | ',' NAME names
data = 'data' NAME '(' fields ')'
fields = | field more
more = | ',' field more
trait = 'trait' NAME 'with' NAME '(' NAME more ')' ':' NAME
impl = 'impl' NAME 'for' NAME '=' value
def = 'def' NAME brackets '(' fields ')' told '=' value
brackets = | '[' bound bounds ']'
bounds = | ',' bound bounds
bound = NAME | NAME ':' NAME
told = | ':' NAME
field = NAME ':' NAME
value = let | choice | loop | either
let = 'let' NAME '=' value 'in' value
choice = 'if' value 'then' value 'else' value
loop = 'loop' NAME '=' value 'times' value 'do' value
either = both | either 'or' both
both = negated | both 'and' negated
negated = 'not' negated | compared
compared = sum | sum '==' sum | sum '<' sum
sum = product | sum '+' product | sum '-' product
product = signed | product '*' signed | product '/' signed
signed = '-' signed | reached
reached = simple | reached '.' NAME
simple = NUMBER | 'True' | 'False' | NAME | NAME '(' arguments ')' | '(' value ')'
arguments = | value others
others = | ',' value others
"""

RULES = {}
for row in ITEM.strip().split("\n"):
    left, right = row.split(" = ", 1) if " = " in row else (row.split(" =")[0], "")
    RULES[left] = [tuple(choice.split()) for choice in right.split("|")]


def closed(state, states):
    """Add to a state what it leads to without a token."""
    waiting = list(state)
    while waiting:
        rule, choice, at, origin = waiting.pop()
        found = []
        if at == len(choice):
            for row in states[origin] if origin < len(states) else list(state):
                if row[2] < len(row[1]) and row[1][row[2]] == rule:
                    found.append((row[0], row[1], row[2] + 1, row[3]))
        elif choice[at] in RULES:
            found = [(choice[at], right, 0, len(states)) for right in RULES[choice[at]]]
            # What is empty may have ended here before this row came.
            for row in list(state):
                if row[0] == choice[at] and row[3] == len(states) and row[2] == len(row[1]):
                    found.append((rule, choice, at + 1, origin))
        for row in found:
            if row not in state:
                state.add(row)
                waiting.append(row)
    return state


def failure(text, found, start):
    """The place at which reading fails, or None, for a text with these tokens and the name of a rule."""
    states = []
    state = closed({("all", (start,), 0, 0)}, states)
    for sort, begin, end in found:
        word = {"name": "NAME", "number": "NUMBER", "wrong": "!"}.get(sort, "'" + text[begin:end] + "'")
        states.append(state)
        state = {(row[0], row[1], row[2] + 1, row[3]) for row in state
                 if row[2] < len(row[1]) and row[1][row[2]] == word}
        if not state:
            return (begin, end)
        state = closed(state, states)
    if ("all", (start,), 1, 0) in state:
        return None
    end = found[-1][2] if found else 0
    return (end, end)
