"""The words of which texts are made, and rows of words that are read one after the other."""

from oldhands.errors import BadText
from oldhands.kinds import LETTERS, LONGEST_NAME
from oldhands.turns import FIGURES, number_of
from oldhands.values import is_sign

BLANK = " "
QUOTE = '"'
MINUS = "-"
OPENING = "([{"
CLOSING = ")]}"
MARKS = "()[]{},:;/"
MOST_FIGURES = 60
MOST_BRACKETS = 40

# What comes behind the last word.
END = ("end", "")


def words_of(text):
    """The words of a text: pairs of a sort (word, number, text or mark) and what is told; refused with BadText."""
    found = []
    at = 0
    while at < len(text):
        end = word_end(text, at)
        if text[at] != BLANK:
            found.append(made_word(text[at:end]))
        at = end
    if deepest_brackets(found) > MOST_BRACKETS:
        raise BadText("there are too many brackets within one another")
    return found


def word_end(text, at):
    """The place behind the word that begins at a place, or behind a blank there; refused with BadText."""
    if text[at] == QUOTE:
        close = text.find(QUOTE, at + 1)
        if close < 0:
            raise BadText("a quotation mark is not closed")
        return close + 1
    if text[at] in LETTERS:
        return run_end(text, at, LETTERS)
    if text[at] == MINUS or text[at] in FIGURES:
        return run_end(text, at + 1, FIGURES)
    return at + 1


def run_end(text, at, letters):
    """The place behind the letters, all of them some of these, that stand from a place on."""
    end = at
    while end < len(text) and text[end] in letters:
        end += 1
    return end


def made_word(text):
    """The pair of a word's sort and what it tells; refused with BadText."""
    if text in MARKS:
        return ("mark", text)
    if text[0] == QUOTE and all([is_sign(letter) for letter in text[1:-1]]):
        return ("text", text[1:-1])
    if text[0] in LETTERS and len(text) <= LONGEST_NAME:
        return ("word", text)
    number = number_of(text) if len(text.lstrip(MINUS)) <= MOST_FIGURES else None
    if number is None:
        raise BadText("this is no word")
    return ("number", number)


def deepest_brackets(words):
    """How many brackets stand within one another at most."""
    deepest = 0
    here = 0
    for sort, told in words:
        if sort == "mark" and told in OPENING:
            here += 1
        if sort == "mark" and told in CLOSING:
            here -= 1
        deepest = max(deepest, here)
    return deepest


class WordRow:
    """The words of a text, read one after the other."""

    def __init__(self, text):
        self.all_words = words_of(text)
        self.place = 0

    def coming(self, ahead):
        """The word that comes so many words ahead of the next one, or that is the next one where ahead is 0."""
        at = self.place + ahead
        return self.all_words[at] if at < len(self.all_words) else END

    def comes(self, mark):
        """Whether a mark comes next."""
        return self.coming(0) == ("mark", mark)

    def take(self, sort):
        """What the next word tells, which is of a sort; refused with BadText where it is of another one."""
        found = self.coming(0)
        if found[0] != sort:
            raise BadText("another sort of word comes")
        self.place += 1
        return found[1]

    def take_mark(self, mark):
        """Pass by a mark; refused with BadText where another word comes."""
        if not self.comes(mark):
            raise BadText("another mark comes")
        self.place += 1
