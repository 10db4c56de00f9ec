// Package span asks whether numbers stand within bounds: what may be, of either form, is mostly that.
package span

// number is what fields of files are: asked for as they are, none of them loses its upper bits on the way.
type number interface{ int | int64 }

// Numbers answers whether n is the number of one of count items.
func Numbers[N number](n, count N) bool {
	return n >= 0 && n < count
}

// Within answers whether n is from least to most.
func Within[N number](n, least, most N) bool {
	return n >= least && n <= most
}
