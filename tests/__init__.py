"""The tests of Basketrope."""
