"""Callwarrant: methods chosen by all arguments, checked module by module."""
