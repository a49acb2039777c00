"""People go from group to group, one behind another: what each move is, and where moves end."""
