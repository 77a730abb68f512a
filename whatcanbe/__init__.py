"""What can ever come of rules by which roles are given and taken."""
