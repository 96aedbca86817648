"""Samebook: things told equal or unlike, with reasons and worlds."""
