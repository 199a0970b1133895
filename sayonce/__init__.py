"""Sayonce: numbers said in words, by systems of number words that are given as data."""
