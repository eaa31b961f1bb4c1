"""Likemarks: few marks of a row that meet every unlike stretch."""
