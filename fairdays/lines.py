"""Rules written as lines of words, and lines read as rules."""

from fairdays.errors import NoLine
from fairdays.parts import part_of

FIGURES = "0123456789"
NUMBER = ""
# The words of the rules that have no rules in them; a number stands where NUMBER does.
FORMS = {
    "every": ("every", "", "from", ""),
    "date": ("date", ""),
    "nth": ("nth", "", "weekday", ""),
}
PAIR_WORDS = {"both": "and", "either": "or", "but": "but", "moved": "off"}
PAIR_KINDS = {"and": "both", "or": "either", "but": "but", "off": "moved"}
# An opening bracket, a rule, a word, a rule and a closing bracket.
PAIR_LENGTH = 5


def shown(rule):
    part_of(rule)
    return line_of(rule)


def line_of(rule):
    kind = rule[0]
    if kind in FORMS:
        return plain_line(rule)
    line = line_of(rule[1])
    word = PAIR_WORDS[kind]
    other = line_of(rule[2])
    return f"( {line} {word} {other} )"


def plain_line(rule):
    words = []
    place = 1
    for told in FORMS[rule[0]]:
        if told == NUMBER:
            words.append(str(rule[place]))
            place = place + 1
        else:
            words.append(told)
    return " ".join(words)


def read(line):
    items = items_of(line.split(" "))
    rule = rule_of(items)
    # Numbers are looked at last, since a line that is no rule's is to be
    # refused as such, whatever numbers it has.
    for item in items:
        if isinstance(item, tuple):
            part_of(item)
    return rule


# The words of a line, but a rule that has no rules in it is put together.
def items_of(words):
    items = []
    place = 0
    while place < len(words):
        word = words[place]
        if word in FORMS:
            form = FORMS[word]
            items.append(plain_rule(form, words[place:place + len(form)]))
            place = place + len(form)
        else:
            items.append(word)
            place = place + 1
    return items


def plain_rule(form, words):
    if len(words) != len(form):
        raise NoLine("the line ends within a rule")
    found = [words[0]]
    for told, word in zip(form, words):
        if told == NUMBER:
            found.append(number_of(word))
        elif word != told:
            raise NoLine("another word stands in this place of a rule")
    return tuple(found)


def number_of(word):
    figures = word[1:] if word.startswith("-") else word
    if figures == "" or (figures[0] == "0" and word != "0"):
        raise NoLine("a number is not written like this")
    number = 0
    for figure in figures:
        if figure not in FIGURES:
            raise NoLine("a number has figures alone")
        number = number * 10 + int(figure)
    return -number if word.startswith("-") else number


# Brackets are closed from within by keeping what is still open in a list, not
# by a call for each: a line may open more of them than calls may go deep.
def rule_of(items):
    kept = []
    for item in items:
        kept.append(item)
        if item == ")":
            pair = pair_rule(kept[-PAIR_LENGTH:])
            for closed in range(PAIR_LENGTH):
                kept.pop()
            kept.append(pair)
    if len(kept) != 1 or not isinstance(kept[0], tuple):
        raise NoLine("the line is not one rule")
    return kept[0]


def pair_rule(items):
    if [isinstance(item, tuple) for item in items] != [False, True, False, True, False]:
        raise NoLine("the brackets do not hold two rules with a word between")
    if items[0] != "(" or items[2] not in PAIR_KINDS:
        raise NoLine("another word stands in this place of a pair")
    return (PAIR_KINDS[items[2]], items[1], items[3])
