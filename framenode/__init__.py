"""A node on a bus, by CANopen's frames: framenode.bus.answers(calls) is its one way in."""
