"""A hotel's desk: stays and their rooms, offers, and the nights' prices."""
