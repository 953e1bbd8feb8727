"""Which integers are bends of circles that touch, told by signs that every touch hands on."""
