"""Roads: what becomes of a letter's word on its way, and rows of words laid over letters."""


def road(lies):
    last = {}
    for lie in lies:
        last[lie[:3]] = lie[3]

    def word_on_arrival(turn, path, to, word):
        return last.get((turn, path, to), word)

    return word_on_arrival


def lies_of(letters, liars, row):
    lying = [letter for letter in letters if letter[1][-1] in liars]
    return [letter[:3] + (word,) for letter, word in zip(lying, row)]
