"""Puttingback: what is shown of a thing is changed and put back."""
