"""A console: lines of text change a book and ask about its webs."""

from biddingmoves.books import Book, is_name
from biddingmoves.errors import InvalidLine, InvalidText
from biddingmoves.kinds import is_letter, is_moves, is_numeral, is_part, is_share, is_string, pair_in, written
from biddingmoves.moves import moves_to_win
from biddingmoves.needs import best_moves, need, winner
from biddingmoves.webs import Web


def letter_in(word):
    """The letter that the word is, or None."""
    return word if is_letter(word) else None


def moves_in(word):
    """The number of moves that the word is, or None."""
    moves = int(word) if is_numeral(word) else None
    return moves if is_moves(moves) else None


def part_in(word):
    """The part that the word is, or None."""
    part = pair_in(word)
    return part if is_part(part) else None


def share_in(word):
    """The fraction from 0 to 1 that the word is, or None."""
    share = pair_in(word)
    return share if is_share(share) else None


# What reads the words of a line behind a name and this one.
_READERS = {
    "least": (letter_in, part_in),
    "most": (letter_in, part_in),
    "within": (letter_in, moves_in, part_in),
    "order": (letter_in, letter_in),
    "need": (letter_in,),
    "wins": (letter_in, share_in),
    "moves": (letter_in, share_in),
    "go": (letter_in,),
}
_CLAIMS = ("least", "most", "within", "order")


def web_in(text):
    """The web that has this text with ` / ` in the place of newlines, or None."""
    if "\n" in text:
        return None
    try:
        return Web.read(text.replace(" / ", "\n"))
    except InvalidText:
        return None


def asked_in(words):
    """The tuple of the second one of these words, the first one, and what the others are; or None."""
    if words[1] not in _READERS:
        return None
    readers = _READERS[words[1]]
    if len(words) != 2 + len(readers):
        return None
    values = [reader(word) for reader, word in zip(readers, words[2:])]
    return None if None in values else (words[1], words[0], *values)


def meant_by(line):
    """What a line says: a tuple that begins with a word for what is to be done; None if it is no line."""
    words = line.split(" ")
    if words == ["undo"]:
        return ("undo",)
    if len(words) == 2 and words[0] == "drop" and is_name(words[1]):
        return "drop", words[1]
    if len(words) < 3 or not is_name(words[0]):
        return None
    if words[1] != "=":
        return asked_in(words)
    web = web_in(" ".join(words[2:]))
    return None if web is None else ("set", words[0], web)


def answer(book, asked):
    """What is told about a web of the book."""
    word, name, place = asked[:3]
    web = book[name]
    if word == "need":
        return written(need(web, place))
    if word == "wins":
        return winner(web, place, asked[3])
    if word == "go":
        return ",".join(best_moves(web, place, "first"))
    moves = moves_to_win(web, place, asked[3])
    return "never" if moves is None else str(moves)


class Console:
    """A console with a book of its own."""

    def __init__(self):
        self._book = Book()

    @property
    def book(self):
        """The book that the lines change."""
        return self._book

    def say(self, line):
        """Does what the line says, and returns what there is to tell."""
        meant = meant_by(line) if is_string(line) else None
        if meant is None:
            raise InvalidLine(line)
        word = meant[0]
        if word == "set":
            self._book[meant[1]] = meant[2]
            return str(len(meant[2].places))
        if word == "undo":
            self._book.undo()
        elif word == "drop":
            self._book.drop(meant[1])
        elif word in _CLAIMS:
            self._book.claim(meant)
        else:
            return answer(self._book, meant)
        return "ok"
