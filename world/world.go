// Package world: what a policy is asked about.
package world

import (
	"steer/api"
	"steer/prefix"
)

// None stands where an address lies in no region.
const None = -1

const draws = 1 << 32

// IsRight tells whether a world is right.
func IsRight(w api.World) bool {
	return IsQuestion(w.Addr, w.Bits, w.Draw) && ArePlaces(w.Places)
}

// IsQuestion tells whether these can be the address, the number of its known bits, and the draw of a right world.
func IsQuestion(addr int, bits int, draw int) bool {
	return prefix.IsAddress(addr) && bits >= 0 && bits <= api.MaxBits && draw >= 0 && draw < draws
}

// ArePlaces tells whether these can be the places of a right world.
func ArePlaces(l []api.Place) bool {
	// Before the prefixes are copied, because the list may be of any length.
	if len(l) > api.MaxPlaces {
		return false
	}
	for _, p := range l {
		if p.Region < 0 || p.Region > api.MaxRegion {
			return false
		}
	}
	return prefix.IsList(prefixes(l))
}

// Known gives an address with noughts behind its first bits.
func Known(addr int, bits int) int {
	if bits < 0 || bits > api.MaxBits {
		return 0
	}
	behind := api.MaxBits - bits
	return addr >> behind << behind
}

// Region gives the region that an address lies in, or None, and the depth of the longest match that tells so.
func Region(l []api.Place, addr int) (int, int) {
	i, depth := prefix.Longest(prefixes(l), addr)
	if i < 0 || i >= len(l) {
		return None, depth
	}
	return l[i].Region, depth
}

func prefixes(l []api.Place) []api.Prefix {
	all := []api.Prefix{}
	for _, p := range l {
		all = append(all, p.Prefix)
	}
	return all
}
