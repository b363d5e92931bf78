"""Readingring: books that go round a ring of readers."""
