"""Free makers: twins, leftovers and papers; needed makers, and makers that make the same."""

from quadwords.rows import maker_words, ways_to_places


def first_pairs(words):
    """The numbers of each two makers of which the first one's word begins with the second one's."""
    many = len(words)
    pairs = [(longer, shorter) for longer in range(many) for shorter in range(many) if longer != shorter]
    return [(longer, shorter) for longer, shorter in pairs if words[longer].startswith(words[shorter])]


def first_lefts(words):
    """What is left of each word behind another one with which it begins."""
    return [words[longer][len(words[shorter]):] for longer, shorter in first_pairs(words)]


def words_within(words, text):
    """The numbers of the words with which a text begins."""
    return [number for number, word in enumerate(words) if text.startswith(word)]


def words_beyond(words, text):
    """The numbers of the words that begin with a text."""
    return [number for number, word in enumerate(words) if word.startswith(text)]


def next_lefts(words, text):
    """What is left of a text that isn't empty behind words, and of words behind it."""
    of_text = [text[len(words[number]):] for number in words_within(words, text)]
    return of_text + [words[number][len(text):] for number in words_beyond(words, text)]


def leftovers(makers):
    """The leftovers of makers, rising, each once."""
    words = maker_words(makers)
    found = {}
    waiting = first_lefts(words)
    while waiting:
        text = waiting.pop()
        if text not in found:
            found[text] = True
            waiting.extend(next_lefts(words, text) if text else [])
    return sorted(found)


def is_paper(texts):
    """Whether a thing is a list of texts of l and r."""
    if not isinstance(texts, list) or not all([isinstance(text, str) for text in texts]):
        return False
    # A text that holds another sign keeps at least that one.
    return all([text.strip("lr") == "" for text in texts])


def let_by(makers, texts):
    """Whether a paper is let by."""
    words = maker_words(makers)
    if not is_paper(texts) or "" in texts:
        return False
    held = {text: True for text in texts}
    if not all([left in held for left in first_lefts(words)]):
        return False
    return all([left in held for text in held for left in next_lefts(words, text)])


def first_steps(words):
    """What is left of each first pair, with the length of the longer word and the two rows of one number."""
    pairs = first_pairs(words)
    return [(words[one][len(words[other]):], (len(words[one]), [one], [other])) for one, other in pairs]


def next_steps(words, left, found):
    """What is left when a maker is put to the row behind, with the length and the rows, the one ahead first."""
    length, ahead, behind = found
    within = [(left[len(words[number]):], (length, ahead, behind + [number])) for number in words_within(words, left)]
    # A word that goes beyond what is left puts its own row ahead.
    beyond = [(words[number][len(left):], number) for number in words_beyond(words, left)]
    return within + [(over, (length + len(over), behind + [number], ahead)) for over, number in beyond]


def keep_shorter(waiting, done, steps):
    """Put to what waits each step that comes to a left-over text by the shortest length yet."""
    for left, found in steps:
        if left not in done and (left not in waiting or found[0] < waiting[left][0]):
            waiting[left] = found


def twins_of(words):
    """Two unlike rows of words that make the same text, the shortest one that has such, or None."""
    # Two rows differ by what the longer text has left; what can come of them hangs on that alone, so for each
    # left-over text the shortest pair is enough, and the one taken first has no shorter way to it.
    done = {}
    waiting = {}
    keep_shorter(waiting, done, first_steps(words))
    while waiting:
        left = min(waiting, key=lambda text: waiting[text][0])
        found = waiting.pop(left)
        length, one, other = found
        if left == "":
            return (one, other) if one[0] < other[0] else (other, one)
        done[left] = True
        keep_shorter(waiting, done, next_steps(words, left, found))
    return None


def twins(makers):
    """Two unlike rows that make the same table, of the shortest word that has such, or None."""
    return twins_of(maker_words(makers))


def is_needed(words, number):
    """Whether a maker isn't made by unlike ones, and none ahead is alike."""
    word = words[number]
    others = [other for other in words if other != word]
    return word not in words[:number] and ways_to_places(others, word)[len(word)] == 0


def needed_of(words):
    """The numbers of the words that are needed, rising."""
    return [number for number in range(len(words)) if is_needed(words, number)]


def needed(makers):
    """The numbers of the makers that are needed, rising."""
    return needed_of(maker_words(makers))


def same(makers, others):
    """Whether two lists of makers make the same tables."""
    words = maker_words(makers)
    other_words = maker_words(others)
    # Whoever makes the same has the same needed ones, so these alone are compared.
    first = sorted([words[number] for number in needed_of(words)])
    return first == sorted([other_words[number] for number in needed_of(other_words)])
