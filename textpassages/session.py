"""The session of one request: its text, its query and its settings."""

from textpassages.texts import Text


class Settings:
    def __init__(self):
        self.o = 10
        self.e = 1
        self.h = 3
        self.t = 2
        self.c = 1
        self.w = 10
        self.g = 1


class Session:
    def __init__(self):
        self.text = Text([])
        self.weights = {}
        self.settings = Settings()
