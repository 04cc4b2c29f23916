"""The tests of pairedparts."""
