"""Spellers: words of which no two share a text, and which of them texts mean."""

from slipworth.checks import check_arguments, is_short, is_whole, is_word, rank
from slipworth.errors import Mixed, NotMeant, NoWord
from slipworth.marking import least_shared, shared_texts
from slipworth.prices import GREATEST_PRICE, MOST_IN_WORD, is_table, texts_within


class Speller:
    """Words of which no two share a text up to a price."""

    def __init__(self, table, most):
        check_arguments([is_table(table), is_whole(most, 0, GREATEST_PRICE)])
        self.table = copied(table)
        self.most = most
        # For each word the texts up to the price, each with its price.
        self.kept = {}

    def put(self, word):
        """Put the word in, unless it shares a text with another one."""
        check_arguments([is_short(word, MOST_IN_WORD)])
        if word not in self.kept:
            texts = texts_within(self.table, word, self.most)
            for other in self.words():
                both = least_shared(self.kept[other], texts)
                if both is not None:
                    raise Mixed(other, both[0])
            self.kept[word] = texts

    def take(self, word):
        """Take the word out."""
        if word not in self:
            raise NoWord(word)
        del self.kept[word]

    def words(self):
        """The words that are in, ascending."""
        return tuple(sorted(list(self.kept), key=rank))

    def __contains__(self, word):
        # Any value may be asked for, also one that cannot be the key of a dict.
        return isinstance(word, str) and word in self.kept

    def __len__(self):
        return len(self.kept)

    def read(self, text):
        """The pair (word, price) of the word that has the text up to the price."""
        check_arguments([is_word(text)])
        for word, texts in self.kept.items():
            if text in texts:
                return (word, texts[text])
        raise NotMeant(text)

    def retable(self, table):
        """Set another table, unless two words share a text by it."""
        check_arguments([is_table(table)])
        words = self.words()
        texts = [texts_within(table, word, self.most) for word in words]
        found = shared_texts(texts)
        if found:
            (_, other), text = min(found.items())
            raise Mixed(words[other], text)
        self.table = copied(table)
        self.kept = dict(zip(words, texts))


def copied(table):
    """The table in tuples, which later changes to it do not reach."""
    return tuple([tuple(fault) for fault in table])
