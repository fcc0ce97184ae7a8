"""The tests of stairparts."""
