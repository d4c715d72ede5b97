"""The words of the rows that a desk is told, and of its answers [39], [40].

A form is a row in which a word of capitals stands for what may stand there: NAME, RULE and NET for names, TEXT for
the text of a net, PLACE and MOST for numbers.
"""

from weave.errors import NoAsk
from weave.stock import is_name
from weave.texts import FIGURES, show_net
from weave.things import is_spelled

NUMBER_MOST = 9
COMPLETE_MOST = 12
PARTING = "=>"
# Behind the word for a rule and its name one word at least is left's, whatever it is.
PARTING_FIRST = 3


def is_number(word):
    """Whether it is a whole number in figures, with no 0 ahead of others."""
    return is_spelled(word, FIGURES, NUMBER_MOST) and (word == "0" or word[0] != "0")


def is_name_word(word):
    """Whether it is a name."""
    return is_name(word)


def is_place_word(word):
    """Whether it is numbers, parted by commas."""
    return all(is_number(part) for part in word.split(","))


def is_most_word(word):
    """Whether it is a number up to the most rules that may be added."""
    return is_number(word) and int(word) <= COMPLETE_MOST


def is_any_word(word):
    """Whether a word may be a text: whether it is one of a net is asked later."""
    return True


SLOTS = {
    "NAME": is_name_word,
    "RULE": is_name_word,
    "NET": is_name_word,
    "TEXT": is_any_word,
    "PLACE": is_place_word,
    "MOST": is_most_word,
}


def fits_form(form, words):
    """Whether words stand as a form has it."""
    if len(form) != len(words):
        return False
    for own, word in zip(form, words):
        if own in SLOTS:
            fits_slot = SLOTS[own]
            if not fits_slot(word):
                return False
        elif own != word:
            return False
    return True


def as_one(words):
    """A list of the words as one text; of none it is empty."""
    return [" ".join(words)] if words else []


def texts_as_one(words):
    """The words of a row, where those of each TEXT are one."""
    if words[0] == "net":
        return words[:2] + as_one(words[2:])
    if words[0] == "rule" and PARTING in words[PARTING_FIRST:]:
        at = PARTING_FIRST + words[PARTING_FIRST:].index(PARTING)
        return words[:2] + as_one(words[2:at]) + [PARTING] + as_one(words[at + 1:])
    return words


def read_row(forms, row):
    """The form of a row among a list of forms, and the list of what stands for its words of capitals, or NoAsk."""
    words = row.split(" ")
    if "" in words:
        raise NoAsk("words are parted by single blanks")
    words = texts_as_one(words)
    for form in forms:
        own_words = form.split(" ")
        if fits_form(own_words, words):
            return (form, [word for own, word in zip(own_words, words) if own in SLOTS])
    raise NoAsk("there is no such row")


def read_place(word):
    """The place that a word tells."""
    return tuple(int(part) for part in word.split(","))


def show_place(place):
    """A place as a word."""
    return ",".join(str(box) for box in place)


def show_words(words):
    """Words with blanks between, or that there are none."""
    return " ".join(words) if words else "none"


def show_rule(rule):
    """A rule as a row has it behind its name."""
    left, right = rule
    return " ".join([show_net(left), PARTING, show_net(right)])


def show_number(names, number):
    """The rule of a number, by its name, or by its number among those that were added behind the named ones."""
    return names[number] if number < len(names) else "+" + str(number - len(names) + 1)


def show_overlap(word, names, overlap):
    """A word and the two rules of an overlap."""
    return " ".join([word, show_number(names, overlap[0]), show_number(names, overlap[1])])
