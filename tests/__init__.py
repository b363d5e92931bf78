"""Tests of readingring."""
