"""Ends of lines that are turned whenever texts are taken in and put out."""
