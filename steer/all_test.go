package steer_test

import (
	"math"
	"math/rand"
	"testing"

	"steer/api"
	"steer/steer"
)

func TestAnyBytes(t *testing.T) { // P1, P2: each call ends, and answers the same of the same text, with nothing beside an error
	r := rand.New(rand.NewSource(5))
	for range 20000 {
		b := make([]byte, r.Intn(60))
		r.Read(b)
		text := string(b)
		if r.Intn(2) == 0 {
			text = edited(r, newDraft(r, 10, 100).text.String())
		}
		errno, at := steer.Check(text)
		size, again := steer.Size(text)
		if errno != again || errno != api.OK && size != 0 || errno == api.OK && (size < 1 || size > api.MaxSize+1 || at != 0) {
			t.Fatalf("Check(%q) = %d, %d, but Size = %d, %d", text, errno, at, size, again)
		}
		code, compiling := steer.Compile(text)
		want := errno
		if size > api.MaxSize {
			want = api.ErrFull
		}
		if compiling != want || (code == nil) != (want != api.OK) {
			t.Fatalf("Compile(%q) = %d bytes, %d, want %d", text, len(code), compiling, want)
		}
		steer.Check("a:{1,2};b:{64}")
		errno2, at2 := steer.Check(text)
		if errno2 != errno || at2 != at {
			t.Fatalf("Check(%q) = %d, %d, and then %d, %d", text, errno, at, errno2, at2)
		}
	}
}

func TestAnyNumbers(t *testing.T) { // P1: each call ends, with nothing beside an error
	code := compiled(t, "a:m(1:g(1:@0|f(0,32,63|@1))|w(1*1,2*2|{1}))")
	odd := []int{0, 1, -1, 2, 31, 32, 33, 63, 64, 65, 1 << 31, 1<<32 - 1, 1 << 32, math.MaxInt32, math.MinInt32, math.MaxInt, math.MinInt}
	for _, value := range odd {
		for _, n := range odd {
			for _, addr := range odd {
				index, depth, errno := steer.Match(prefixes(value, n), addr)
				if errno != api.OK && (index != 0 || depth != 0) || errno == api.OK && (index < -1 || index > 0 || depth < 0 || depth > 32) {
					t.Errorf("Match((%d, %d), %d) = %d, %d, %d", value, n, addr, index, depth, errno)
				}
				w := api.World{Addr: addr, Bits: n, Draw: value, Down: odd, Aliases: [][]int{odd}, Places: []api.Place{{Prefix: api.Prefix{Value: value, Len: n}, Region: addr}}}
				for _, fuel := range odd {
					a, errno := steer.Run(code, w, fuel)
					if errno != api.OK && !isNothing(a) || errno == api.OK && fuel < 0 || errno != api.OK && errno != api.ErrArg && errno != api.ErrFuel {
						t.Errorf("Run in %+v with fuel %d = %+v, %d", w, fuel, a, errno)
					}
				}
			}
		}
	}
}
