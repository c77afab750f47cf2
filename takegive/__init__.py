"""Take and give: what can ever come of rights that may be taken and given."""
