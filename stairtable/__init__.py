"""Rows of numbers bumped into tables like stairs, and taken out again."""
