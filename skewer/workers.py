"""Workers, who vouch for the values of positions, and what they claim."""

from skewer.syntax import copied


class Worker:
    """Tells what it says are the values of positions; it may lie, say nothing, or stop answering."""

    def __init__(self, name, answers, *, most=None):
        self.name = name
        # A worker may say anything, also lists, and no one else is to change what it says.
        self._answers = {position: copied(answers[position]) for position in answers}
        self._most = most
        self._asked = []

    def ask(self, position):
        """Returns what the worker tells of the position, or None if it tells nothing."""
        has_stopped = self._most is not None and len(self._asked) >= self._most
        self._asked.append(position)
        return None if has_stopped else copied(self._answers.get(position))

    def asked(self):
        """Returns the list of the positions for which the worker was asked, in order."""
        return list(self._asked)


def is_sound(claim):
    """Returns True if the claim, any object, is of one of the three kinds of values."""
    if not isinstance(claim, tuple):
        return False
    if len(claim) == 1:
        return claim[0] == "drawn"
    return len(claim) == 2 and claim[0] in ("won", "lost") and is_number(claim[1])


def is_number(number):
    # Python counts True and False among the integers, the document does not.
    return isinstance(number, int) and not isinstance(number, bool) and number >= 0


def number_of(claim):
    """Returns the number of a sound claim, or None if it has none or is not sound."""
    return claim[1] if is_sound(claim) and len(claim) == 2 else None


def is_same(claim, other):
    """Returns True if two claims, any objects, say the same."""
    # For Python, ("won", True) equals ("won", 1), but only the second one is sound.
    return claim == other and is_sound(claim) == is_sound(other)
