"""The tests of shortring: python3 -m unittest, from the top of the repository."""
