"""The tests of sureplace, one file test_*.py for each module of the package."""
