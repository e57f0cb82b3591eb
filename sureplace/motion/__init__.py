"""How far the receiver and its clock can go."""
