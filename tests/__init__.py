"""The tests of sharedout."""
