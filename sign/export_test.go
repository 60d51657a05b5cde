package sign

// What no key and hash are known for that lead there by the exported functions.
var (
	Drawn = drawn
	Made  = made
)
