"""A desk, by which a store is led in lines."""

from onewitness.texts import read_below, showing_text


class Desk:
    """A store that is led by lines; what is done to it elsewhere is seen here, too."""

    def __init__(self, store):
        self.store = store

    def say(self, line):
        """Return the answer to any value, "?" for what is no line of those told."""
        words = line.split(" ") if isinstance(line, str) else []
        if len(words) == 3:
            return self._done(words[0], words[1], words[2])
        if len(words) == 1:
            return self._told(words[0])
        return "?"

    def _done(self, word, hand, end):
        """Answer a line that does something; nothing is done if it is no such line."""
        hands = len(self.store.showings)
        numbers = read_below([hand], hands) + read_below([end], self.store.machine.deeds if word == "do" else hands)
        if len(numbers) < 2:
            return "?"
        if word == "do":
            return self._shows(self.store.do(numbers[0], numbers[1]))
        if word == "over" and numbers[0] != numbers[1]:
            return self._shows(self.store.hand_over(numbers[0], numbers[1]))
        return "?"

    def _told(self, word):
        """Answer a line that asks something."""
        store = self.store
        if word == "whole":
            return self._shows(store.whole())
        if word == "told":
            return f"state {store.told()}"
        if word == "value":
            return f"value {store.value}"
        if word == "standing":
            return "standing none" if store.standing is None else f"standing {store.standing}"
        if word == "done":
            return f"done {store.done}"
        if word == "fold":
            # Values are numbers below the fold's size, and each of these is the value of some state.
            values = [value for value in store.fold_row if value is not None]
            return f"fold {max(values) + 1}"
        return "?"

    def _shows(self, showing):
        return "shows " + showing_text(self.store.counters, showing)
