"""Pieces: tuples (word, times), which stand for the entries of the word so many times over.

A list or tuple of pieces stands for the entries of one piece behind the other. The answers
take steps by the lengths of the words only, however great the times are. A word may be
empty here, and times may be 0.
"""


def entries_of(pieces):
    """How many entries the pieces stand for."""
    return sum([len(word) * times for word, times in pieces])


def count_in(pieces, entry):
    """How many of the entries are equal to this one."""
    return sum([word.count(entry) * times for word, times in pieces])


def entry_at(pieces, index):
    """The entry with this index, from 0."""
    for word, times in pieces:
        if index < len(word) * times:
            return word[index % len(word)]
        index -= len(word) * times


def index_of(pieces, entry, number):
    """The index of the number-th entry, from 0, that is equal to this one; None if there are not so many."""
    if number < 0:
        return None
    passed = 0
    for word, times in pieces:
        many = word.count(entry)
        if number < many * times:
            places = [place for place, found in enumerate(word) if found == entry]
            return passed + number // many * len(word) + places[number % many]
        number -= many * times
        passed += len(word) * times
    return None


def parted_at(pieces, index):
    """The pieces before the entry with this index, and those behind it."""
    for place, (word, times) in enumerate(pieces):
        if index < len(word) * times:
            copies, at = divmod(index, len(word))
            before = [*pieces[:place], (word, copies), (word[:at], 1)]
            behind = [(word[at + 1:], 1), (word, times - copies - 1), *pieces[place + 1:]]
            return (before, behind)
        index -= len(word) * times


def pieces_read(look, row, pieces):
    """The pieces of what is found for each entry, and the row behind the last one.

    look(row, entry) tells what is found for an entry that is read by this row, and the row
    for the entry behind it. There are only so many rows.
    """
    found = []
    for word, times in pieces:
        found_here, row = piece_read(look, row, word, times)
        found.extend(found_here)
    return (found, row)


def piece_read(look, row, word, times):
    """As pieces_read, of one piece."""
    copies = []
    numbers = {}
    while len(copies) < times and row not in numbers:
        numbers[row] = len(copies)
        found, row = word_read(look, row, word)
        copies.append(found)
    if len(copies) == times:
        return ([(joined(copies), 1)], row)
    # A copy that is read by a row of an earlier one is found as that one was, and so are
    # those behind it, so that the copies from that one on come again and again.
    first = numbers[row]
    again = copies[first:]
    turns, more = divmod(times - first, len(again))
    found = [(joined(copies[:first]), 1), (joined(again), turns), (joined(again[:more]), 1)]
    return (found, list(numbers)[first + more])


def word_read(look, row, word):
    """What is found for each entry of a word, and the row behind it."""
    read = []
    for entry in word:
        found, row = look(row, entry)
        read.append(found)
    return (read, row)


def joined(words):
    """The entries of all the words, one behind the other."""
    return [entry for word in words for entry in word]
