"""Toldbyrest: flags that the other flags tell."""
