"""Decision diagrams: tracks of bodies, building, reading and combining."""
