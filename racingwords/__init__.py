"""Waiting for words in random letter sequences (Penney's game), exactly."""
