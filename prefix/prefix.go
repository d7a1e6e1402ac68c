// Package prefix: addresses, prefixes of them, and the longest match of an address in a list.
package prefix

import "steer/api"

const addresses = 1 << api.MaxBits

// IsAddress tells whether a number is an address.
func IsAddress(addr int) bool { return addr >= 0 && addr < addresses }

// IsPrefix tells whether p is a prefix.
func IsPrefix(p api.Prefix) bool {
	if p.Len < 0 || p.Len > api.MaxBits {
		return false
	}
	behind := api.MaxBits - p.Len
	return IsAddress(p.Value) && p.Value>>behind<<behind == p.Value
}

// IsList tells whether l is a list of different prefixes, and not too long.
func IsList(l []api.Prefix) bool {
	if len(l) > api.MaxPlaces {
		return false
	}
	for i, p := range l {
		if !IsPrefix(p) {
			return false
		}
		if holds(l[:i], p) {
			return false
		}
	}
	return true
}

func holds(l []api.Prefix, p api.Prefix) bool {
	for _, q := range l {
		if q.Value == p.Value && q.Len == p.Len {
			return true
		}
	}
	return false
}

// Longest gives the index of the longest match of an address in a list of different prefixes, or -1, and its depth.
func Longest(l []api.Prefix, addr int) (int, int) {
	best := -1
	bits := -1
	depth := 0
	for i, p := range l {
		// A match holds for the addresses that have all of its bits; a prefix that
		// does not match is out for those that have the first bit in which it differs.
		need := p.Len
		same := shared(p.Value, addr)
		if same < p.Len {
			need = same + 1
		} else if p.Len > bits {
			best = i
			bits = p.Len
		}
		if need > depth {
			depth = need
		}
	}
	return best, depth
}

// shared tells how many first bits two addresses have in common.
func shared(a int, b int) int {
	n := api.MaxBits
	for n > 0 && a != b {
		a = a / 2
		b = b / 2
		n--
	}
	return n
}
