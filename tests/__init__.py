"""The tests of lastfords."""
