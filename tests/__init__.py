"""The tests of growinganswers."""
