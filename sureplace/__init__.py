"""Sureplace: where a moving receiver surely is, although some sources lie."""
