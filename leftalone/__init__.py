"""What a group of tables leaves as it is: see leftalone.groups."""
