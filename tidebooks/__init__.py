"""Tidehall: books. The way in is tidebooks.book.answers."""
