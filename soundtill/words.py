"""What is a name, an integer or a moment, and the words with which texts tell them.

A form is the word for what an argument must be: "name", "moment", "beginning" (a moment
from 1 on) or "truth". In a text any other form stands for the word itself.
"""

from soundtill.errors import BadMoment, BadName, BadSaying, BadText

# 10 ** 30, the greatest moment.
GREATEST = 1000000000000000000000000000000

LONGEST_NAME = 8
LONGEST_NUMBER = 31

LETTERS = "abcdefghijklmnopqrstuvwxyz"
DIGITS = "0123456789"

NO_NAMES = (
    "begun", "setby", "found", "trusted", "passed", "failed", "agreed", "differed", "served", "backed",
    "sound", "unsound", "sure", "never", "open", "none", "record", "lot", "menu", "wanted",
)


def is_whole(value):
    """Whether any value is an int that is not a bool."""
    return isinstance(value, int) and not isinstance(value, bool)


def is_moment(value):
    """Whether any value is a moment."""
    return is_whole(value) and 0 <= value <= GREATEST


def is_name(value):
    """Whether any value is a name."""
    if not isinstance(value, str) or not 1 <= len(value) <= LONGEST_NAME or value in NO_NAMES:
        return False
    return value[0] in LETTERS and all([sign in LETTERS + DIGITS for sign in value])


def is_point(value):
    """Whether any value is a tuple of a name and a moment."""
    return isinstance(value, tuple) and len(value) == 2 and is_name(value[0]) and is_moment(value[1])


def check_form(value, form):
    """Raises the error of an argument, any value, that has not the form."""
    if form == "name" and not is_name(value):
        raise BadName(value)
    if form == "moment" and not is_moment(value):
        raise BadMoment(value)
    if form == "beginning" and not (is_moment(value) and value > 0):
        raise BadMoment(value)
    if form == "truth" and not isinstance(value, bool):
        raise BadSaying(value)


def is_number(word):
    """Whether a word is written as a moment is."""
    if not 1 <= len(word) <= LONGEST_NUMBER or not all([sign in DIGITS for sign in word]):
        return False
    return word == "0" or (word[0] != "0" and int(word) <= GREATEST)


def has_form(word, form):
    """Whether a word of a text has the form."""
    if form == "name":
        return is_name(word)
    if form == "moment":
        return is_number(word)
    if form == "beginning":
        return is_number(word) and word != "0"
    if form == "truth":
        return word in ("sound", "unsound")
    return word == form


def words_of(text):
    """The words of any value that is a text of one line; no word of anything else can stand."""
    if not isinstance(text, str):
        raise BadText(0, 0)
    return text.split(" ")


def first_wrong(words, forms):
    """The index of the first word that cannot stand there, or is missing; None if there is none."""
    for at, form in enumerate(forms):
        if at == len(words) or not has_form(words[at], form):
            return at
    if len(words) > len(forms):
        return len(forms)
    return None


def told_by(line, words, forms):
    """What the words of a line tell, one value for each form; raises BadText if one cannot stand."""
    wrong = first_wrong(words, forms)
    if wrong is not None:
        raise BadText(line, wrong)
    return [value_of(word, form) for word, form in zip(words, forms)]


def value_of(word, form):
    """The value that a word of this form tells."""
    if form in ("moment", "beginning"):
        return int(word)
    if form == "truth":
        return word == "sound"
    return word


def word_of(value):
    """The word that tells a name, a moment or a truth."""
    if isinstance(value, bool):
        return "sound" if value else "unsound"
    return str(value)
