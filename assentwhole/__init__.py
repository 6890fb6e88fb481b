"""Assentwhole: agreement on one growing roll, with trust told as a language."""
