package world

import (
	"testing"

	"steer/api"
)

func place(value int, n int, region int) api.Place {
	return api.Place{Prefix: api.Prefix{Value: value, Len: n}, Region: region}
}

func TestIsQuestion(t *testing.T) {
	for _, k := range []struct {
		addr, bits, draw int
		want             bool
	}{
		{0, 0, 0, true}, {1<<32 - 1, 32, 1<<32 - 1, true},
		{-1, 0, 0, false}, {1 << 32, 0, 0, false}, {0, -1, 0, false}, {0, 33, 0, false}, {0, 0, -1, false}, {0, 0, 1 << 32, false},
	} {
		if IsQuestion(k.addr, k.bits, k.draw) != k.want {
			t.Errorf("IsQuestion(%d, %d, %d) = %v", k.addr, k.bits, k.draw, !k.want)
		}
	}
}

func TestArePlaces(t *testing.T) {
	const half = 1 << 31
	many := []api.Place{}
	for i := range api.MaxPlaces + 1 {
		many = append(many, place(i, 32, i))
	}
	for i, k := range []struct {
		l    []api.Place
		want bool
	}{
		{nil, true}, {many[:api.MaxPlaces], true}, {many, false},
		{[]api.Place{place(half, 1, 0), place(0, 0, 99)}, true}, {[]api.Place{place(half, 1, -1)}, false}, {[]api.Place{place(half, 1, 100)}, false},
		{[]api.Place{place(half, 1, 1), place(half, 1, 2)}, false}, {[]api.Place{place(1, 31, 1)}, false}, {[]api.Place{place(0, 33, 1)}, false},
	} {
		if ArePlaces(k.l) != k.want || IsRight(api.World{Places: k.l}) != k.want {
			t.Errorf("%d: ArePlaces(%v) = %v", i, k.l, !k.want)
		}
	}
}

func TestKnown(t *testing.T) {
	for _, k := range []struct{ addr, bits, want int }{
		{0xFFFFFFFF, 0, 0}, {0xFFFFFFFF, 1, 0x80000000}, {0xFFFFFFFF, 31, 0xFFFFFFFE}, {0xFFFFFFFF, 32, 0xFFFFFFFF}, {0xA1000000, 4, 0xA0000000}, {0x7FFFFFFF, 1, 0},
	} {
		if Known(k.addr, k.bits) != k.want {
			t.Errorf("Known(%#x, %d) = %#x, want %#x", k.addr, k.bits, Known(k.addr, k.bits), k.want)
		}
	}
}

func TestRegion(t *testing.T) {
	l := []api.Place{place(1<<31, 1, 5), place(3<<30, 2, 6)}
	for _, k := range []struct {
		l                   []api.Place
		addr, region, depth int
	}{
		{nil, 7, None, 0}, {l, 0, None, 1}, {l, 1 << 31, 5, 2}, {l, 3 << 30, 6, 2},
	} {
		region, depth := Region(k.l, k.addr)
		if region != k.region || depth != k.depth {
			t.Errorf("Region(%v, %#x) = %d, %d, want %d, %d", k.l, k.addr, region, depth, k.region, k.depth)
		}
	}
}
