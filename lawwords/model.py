"""What a law holds: its parts and its definitions."""


class Part:
    def __init__(self, above, words):
        self.above = above
        self.words = words


class Definition:
    def __init__(self, part, word, since, until, body):
        self.part = part
        self.word = word
        self.since = since
        self.until = until
        self.body = body


class Law:
    def __init__(self):
        self.begin()

    def begin(self):
        # The whole is in no part: a walk from part to part ends there.
        self.parts = [Part(None, [])]
        self.definitions = []
