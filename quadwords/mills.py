"""Mills: makers beside a text that is read and taken back, table by table."""

from quadwords.errors import NoBack, TooLong
from quadwords.plain import LONGEST_WORD, table_of, word_of
from quadwords.rows import least_to_places, maker_words, reached_places, ways_to_places


def begun_rests(words, begun):
    """What is left of each word that begins with what is begun and is longer."""
    return [word[len(begun):] for word in words if word.startswith(begun) and word != begun]


class Mill:
    """Makers, and the text that was read."""

    def __init__(self, makers):
        self.words = maker_words(makers)
        self.held = []

    def read(self, table):
        """Put a table's word behind the text, or NoPlain, or TooLong; tell how many letters there are then."""
        word = word_of(table)
        if len(self.text()) + len(word) > LONGEST_WORD:
            raise TooLong("the text would have more than 400 letters")
        self.held.append(word)
        return len(self.text())

    def take_back(self):
        """Take back the last table read, or NoBack; tell how many letters there are then."""
        if not self.held:
            raise NoBack("nothing is there to be taken back")
        self.held.pop()
        return len(self.text())

    def text(self):
        """The text that was read."""
        return "".join(self.held)

    def table(self):
        """The table of the text."""
        return table_of(self.text())

    def ways(self):
        """How many rows make the text."""
        return ways_to_places(self.words, self.text())[-1]

    def least(self):
        """The least row that makes the text, or None."""
        return least_to_places(self.words, self.text())[-1]

    def places(self):
        """The places reached of the text, rising."""
        return reached_places(self.words, self.text())

    def rests(self):
        """What is left of makers' words behind what stands from a place reached to the end; rising, each once."""
        text = self.text()
        begun = [text[place:] for place in self.places()]
        return sorted({rest for each in begun for rest in begun_rests(self.words, each)})
