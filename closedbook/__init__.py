"""Stembook: closed sets and the rules that hold."""
