"""Twoways: machines that walk both ways and write, plans that say the same, and edited words."""
