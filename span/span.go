// Package span asks whether numbers stand within bounds: what may be, of either form, is mostly that.
package span

// Numbers answers whether n is the number of one of count items.
func Numbers(n, count int) bool {
	return n >= 0 && n < count
}

// Within answers whether n is from least to most.
func Within(n, least, most int) bool {
	return n >= least && n <= most
}
