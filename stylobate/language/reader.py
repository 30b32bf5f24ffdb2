"""Going through the tokens of a text."""

from stylobate.errors import QueryError
from stylobate.language.nesting import check_nesting
from stylobate.language.tokens import RESERVED, read_tokens


def is_reserved(word):
    """Tell whether a word is reserved; small and capital letters are alike."""
    return word.lower() in RESERVED


class Reader:
    """The tokens of a text, and the place of the next one."""

    def __init__(self, text):
        self.tokens = read_tokens(text)
        check_nesting(self.tokens)
        self.length = len(text)
        self.at = 0

    def form_here(self, ahead=0):
        """Return the form of the next token, or of one further ahead; "end" behind the last one."""
        place = self.at + ahead
        return self.tokens[place][0] if place < len(self.tokens) else "end"

    def value_here(self):
        """Return the value of the next token."""
        return self.tokens[self.at][1]

    def offset_here(self):
        """Return where the next token stands, or where the text ends."""
        return self.tokens[self.at][2] if self.at < len(self.tokens) else self.length

    def refuse(self, reason):
        """Raise a fault at the next token."""
        raise QueryError(self.offset_here(), reason)

    def take_value(self):
        """Go behind the next token; return its value."""
        value = self.tokens[self.at][1]
        self.at += 1
        return value

    def sign_here(self, sign):
        """Tell whether the next token is this sign."""
        return self.form_here() == "sign" and self.value_here() == sign

    def word_here(self, word, ahead=0):
        """Tell whether the next token, or one further ahead, is this word."""
        return self.form_here(ahead) == "word" and self.tokens[self.at + ahead][1].lower() == word

    def name_here(self):
        """Tell whether the next token is a name."""
        return self.form_here() == "name" or (self.form_here() == "word" and not is_reserved(self.value_here()))

    def took_sign(self, sign):
        """Go behind the next token if it is this sign; tell whether it is."""
        found = self.sign_here(sign)
        if found:
            self.at += 1
        return found

    def took_word(self, word):
        """Go behind the next token if it is this word; tell whether it is."""
        found = self.word_here(word)
        if found:
            self.at += 1
        return found

    def need_sign(self, sign):
        """Go behind the sign that must stand here."""
        if not self.took_sign(sign):
            self.refuse(f"{sign} is expected")

    def need_word(self, word):
        """Go behind the word that must stand here; return where it stands."""
        offset = self.offset_here()
        if not self.took_word(word):
            self.refuse(f"{word} is expected")
        return offset

    def need_name(self):
        """Go behind the name that must stand here; return it."""
        if not self.name_here():
            self.refuse("a name is expected")
        return self.take_value()

    def need_integer(self):
        """Go behind the integer that must stand here; return it."""
        if self.form_here() != "integer":
            self.refuse("a number is expected")
        return self.take_value()

    def need_end(self, reason):
        """Raise a fault with this reason if a token is left."""
        if self.form_here() != "end":
            self.refuse(reason)
