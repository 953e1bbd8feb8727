"""Words: places at which a four is exchanged, one behind the other."""

from bendsigns.fours import exchanged_bends, need_four
from bendsigns.needs import need_few_letters, need_word


def runs(word):
    """Whether a word of whatever length is running."""
    return all([word[index] != word[index + 1] for index in range(len(word) - 1)])


def is_running(word):
    """Whether no letter of a word stands twice, one right behind the other."""
    need_word(word, "word")
    need_few_letters(word)
    return runs(word)


def is_rising(four, word):
    """Whether each exchange of a word from this four makes the bend at its place greater."""
    need_four(four, "four")
    need_word(word, "word")
    need_few_letters(word)
    bends = four.bends
    for place in word:
        changed = exchanged_bends(bends, place)
        if changed[place] <= bends[place]:
            return False
        bends = changed
    return True
