"""A hotel's desk: stays, offers, and the nights' prices."""
