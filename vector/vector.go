// Package vector: how much of each site.
package vector

import (
	"copse/api"
)

// Max has the greater number of each two.
func Max(a, b api.Vec) (_ api.Vec) {
	return join(a, b, func(x, y int) int { return max(x, y) })
}

// Min has the lesser number of each two.
func Min(a, b api.Vec) (_ api.Vec) {
	return join(a, b, func(x, y int) int { return min(x, y) })
}

// Covers says whether no number of the second one is above the first one's.
func Covers(a, b api.Vec) (_ bool) {
	for i := range a {
		if b[i] > a[i] {
			return false
		}
	}
	return true
}

// Right says whether all numbers are from 0 to MaxTime.
func Right(a api.Vec) (_ bool) {
	for _, n := range a {
		if n < 0 || n > api.MaxTime {
			return false
		}
	}
	return true
}

// join keeps Max and Min each other's mirror: they differ in nothing but how two numbers become one.
func join(a, b api.Vec, two func(x, y int) int) api.Vec {
	var joined api.Vec
	for i := range joined {
		joined[i] = two(a[i], b[i])
	}
	return joined
}
