package steer_test

import (
	"fmt"
	"math"
	"math/rand"
	"slices"
	"strings"
	"testing"

	"steer/api"
	"steer/steer"
)

func prefixes(pairs ...int) []api.Prefix {
	l := []api.Prefix{}
	for i := 0; i+1 < len(pairs); i += 2 {
		l = append(l, api.Prefix{Value: pairs[i], Len: pairs[i+1]})
	}
	return l
}

func TestMatchOrdinary(t *testing.T) { // P3
	three := prefixes(0x80000000, 1, 0xC0000000, 2, 0, 0)
	one := prefixes(0xA0000000, 4)
	halves := prefixes(0, 1, 0x80000000, 1)
	whole := prefixes(0xFFFFFFFF, 32, 0xFFFFFFFE, 32, 0, 0)
	for _, k := range []struct {
		l            []api.Prefix
		addr         int
		index, depth int
	}{
		{three, 0xC0000001, 1, 2}, {three, 0x80000000, 0, 2}, {three, 0x10000000, 2, 1},
		{nil, 0, -1, 0}, {prefixes(), 1<<32 - 1, -1, 0}, {prefixes(0, 0), 77, 0, 0},
		{one, 0x20000000, -1, 1}, {one, 0xB0000000, -1, 4}, {one, 0xA0000000, 0, 4}, {one, 0xAFFFFFFF, 0, 4},
		{halves, 0, 0, 1}, {halves, 1<<32 - 1, 1, 1},
		{whole, 1<<32 - 1, 0, 32}, {whole, 1<<32 - 2, 1, 32}, {whole, 1<<32 - 3, 2, 31}, {whole, 0, 2, 1},
		{prefixes(0, 3, 0, 2, 0, 1), 0, 0, 3}, {prefixes(0, 1, 0, 2, 0, 3), 0, 2, 3}, {prefixes(0, 1, 0, 2, 0, 3), 0x20000000, 1, 3},
	} {
		index, depth, errno := steer.Match(k.l, k.addr)
		if index != k.index || depth != k.depth || errno != api.OK {
			t.Errorf("Match(%v, %#x) = %d, %d, %d, want %d, %d, 0", k.l, k.addr, index, depth, errno, k.index, k.depth)
		}
	}
}

func TestMatchWrong(t *testing.T) { // P1, P3
	many := []api.Prefix{}
	for i := range api.MaxPlaces + 1 {
		many = append(many, api.Prefix{Value: i, Len: 32})
	}
	index, depth, errno := steer.Match(many[:api.MaxPlaces], api.MaxPlaces-1)
	if index != api.MaxPlaces-1 || depth != 32 || errno != api.OK {
		t.Errorf("Match of MaxPlaces prefixes = %d, %d, %d", index, depth, errno)
	}
	right := prefixes(0, 0, 0x80000000, 1)
	for _, k := range []struct {
		l    []api.Prefix
		addr int
	}{
		{right, -1}, {right, 1 << 32}, {nil, -1}, {nil, math.MaxInt}, {nil, math.MinInt},
		{many, 0}, {make([]api.Prefix, 1000000), 0},
		{prefixes(0, -1), 0}, {prefixes(0, 33), 0}, {prefixes(0, math.MaxInt), 0}, {prefixes(0, math.MinInt), 0},
		{prefixes(-1, 32), 0}, {prefixes(1<<32, 0), 0}, {prefixes(1<<32, 32), 0}, {prefixes(math.MinInt, 0), 0}, {prefixes(math.MaxInt, 32), 0}, {prefixes(-1<<31, 1), 0},
		{prefixes(1, 0), 0}, {prefixes(0x80000000, 0), 0}, {prefixes(0x40000000, 1), 0}, {prefixes(1, 31), 0}, {prefixes(0xFFFFFFFF, 31), 0},
		{prefixes(0, 0, 0, 0), 0}, {prefixes(0, 3, 0, 2, 0, 3), 0xFFFFFFFF}, {prefixes(7, 32, 7, 32), 0},
		{prefixes(0, 0, 0, 1, 1, 31), 0},
	} {
		index, depth, errno := steer.Match(k.l, k.addr)
		if index != 0 || depth != 0 || errno != api.ErrArg {
			t.Errorf("Match(%.200v, %d) = %d, %d, %d, want 0, 0, ErrArg", fmt.Sprint(k.l), k.addr, index, depth, errno)
		}
	}
}

// longestByDigits is the longest match, found in the digits of the address.
func longestByDigits(l []api.Prefix, addr int) int {
	best := -1
	for i, p := range l {
		bits := fmt.Sprintf("%032b", p.Value)[:p.Len]
		if strings.HasPrefix(fmt.Sprintf("%032b", addr), bits) && (best < 0 || p.Len > l[best].Len) {
			best = i
		}
	}
	return best
}

// depthByTrial is the least number of bits such that no address with the same first bits has another longest match.
// The longest match changes only where a prefix begins or ends, so those addresses are enough.
func depthByTrial(l []api.Prefix, addr int) int {
	for s := 0; s <= 32; s++ {
		block := addr >> (32 - s)
		same := true
		tries := []int{block << (32 - s)}
		for _, p := range l {
			tries = append(tries, p.Value, p.Value+1<<(32-p.Len))
		}
		for _, a := range tries {
			if a>>(32-s) == block && longestByDigits(l, a) != longestByDigits(l, addr) {
				same = false
			}
		}
		if same {
			return s
		}
	}
	return 33
}

func drawPrefixes(r *rand.Rand) []api.Prefix {
	l := []api.Prefix{}
	base := r.Intn(1 << 32)
	for range r.Intn(8) {
		n := r.Intn(33)
		v := base
		if r.Intn(4) == 0 {
			v = r.Intn(1 << 32)
		} else if n > 0 {
			v ^= r.Intn(4) << (32 - n)
		}
		p := api.Prefix{Value: v >> (32 - n) << (32 - n) & (1<<32 - 1), Len: n}
		if !slices.Contains(l, p) {
			l = append(l, p)
		}
	}
	return l
}

func TestMatchDrawn(t *testing.T) { // P3
	r := rand.New(rand.NewSource(1))
	for range 4000 {
		l := drawPrefixes(r)
		addr := r.Intn(1 << 32)
		if len(l) > 0 && r.Intn(4) > 0 {
			p := l[r.Intn(len(l))]
			addr = (p.Value ^ r.Intn(2)<<r.Intn(32)) & (1<<32 - 1)
		}
		index, depth, errno := steer.Match(l, addr)
		if index != longestByDigits(l, addr) || depth != depthByTrial(l, addr) || errno != api.OK {
			t.Fatalf("Match(%v, %#x) = %d, %d, %d, want %d, %d, 0", l, addr, index, depth, errno, longestByDigits(l, addr), depthByTrial(l, addr))
		}
	}
}

func TestMatchLeavesTheList(t *testing.T) { // P2
	room := prefixes(0, 0, 0x80000000, 1, 0xC0000000, 2, 5, 5, -7, 99)
	before := slices.Clone(room)
	for _, addr := range []int{0, 0xC0000000, -1} {
		steer.Match(room[:3], addr)
		if !slices.Equal(room, before) {
			t.Fatalf("Match(.., %d) wrote into its list: %v", addr, room)
		}
	}
	steer.Match(room, 0)
	if !slices.Equal(room, before) {
		t.Fatalf("Match wrote into a wrong list: %v", room)
	}
	room[2] = api.Prefix{Value: 0x40000000, Len: 2}
	index, depth, errno := steer.Match(room[:3], 0xC0000000)
	if index != 1 || depth != 1 || errno != api.OK {
		t.Errorf("Match after the caller wrote into the list = %d, %d, %d", index, depth, errno)
	}
}
