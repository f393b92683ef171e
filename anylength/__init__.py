"""Anylength: procedures over tables, decided for tables of every length."""
