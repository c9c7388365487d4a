"""What a book tells of a bargain, and which books can be a house's."""


def words_of(book, bargain):
    return [line[0] for line in book if line[1] == bargain]


def knows(book, bargain):
    return len(words_of(book, bargain)) > 0


def vote_in(book, bargain):
    for word in words_of(book, bargain):
        if word in ("open", "yes", "no"):
            return word
    return None


def decision_in(book, bargain):
    words = words_of(book, bargain)
    if "bound" in words:
        return "bound"
    # Who says no needs no further line: all that can come of it is off.
    if "off" in words or "no" in words:
        return "off"
    return None


def is_unsure(book, bargain):
    return vote_in(book, bargain) == "yes" and decision_in(book, bargain) is None


def left_open(book):
    return [line[1] for line in book if line[0] == "open" and decision_in(book, line[1]) is None]


def can_stand(word, ahead):
    if len(ahead) == 0:
        # A house that never said yes nor opened can't come to have it bound.
        return word in ("open", "yes", "no", "off")
    return ahead in (["open"], ["yes"]) and word in ("bound", "off")


def is_sound(book):
    words_so_far = {}
    for line in book:
        ahead = words_so_far.setdefault(line[1], [])
        if not can_stand(line[0], ahead):
            return False
        ahead.append(line[0])
    return True
