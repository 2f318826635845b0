"""The tests of resttricks."""
