"""Rollmend: letters by which a newer text is made of an elder one."""
