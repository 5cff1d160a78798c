"""Stamps, and the book that keeps those that were made."""


class Book:
    def __init__(self):
        self.made = {}

    def stamp(self, hand, path, word):
        self.made[(hand, path, word)] = True

    def has(self, hand, path, word):
        return (hand, path, word) in self.made

    def genuine(self, path, word):
        return all([self.has(hand, path[:ahead], word) for ahead, hand in enumerate(path)])

    def stamps(self):
        return sorted(self.made)
