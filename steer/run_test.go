package steer_test

import (
	"math"
	"math/rand"
	"slices"
	"strings"
	"testing"
	"time"

	"steer/api"
	"steer/steer"
)

func sameAnswer(a api.Answer, b api.Answer) bool {
	return slices.Equal(a.Servers, b.Servers) && a.TTL == b.TTL && a.Scope == b.Scope
}

func isNothing(a api.Answer) bool { return a.Servers == nil && a.TTL == 0 && a.Scope == 0 }

func answer(ttl int, scope int, servers ...int) api.Answer {
	return api.Answer{Servers: servers, TTL: ttl, Scope: scope}
}

// asked is a world in which alias 2 is 5, 5, and the place 0010 is in region 7.
func asked(addr int, bits int, draw int, down ...int) api.World {
	return api.World{Addr: addr, Bits: bits, Draw: draw, Down: down, Aliases: [][]int{{}, nil, {5, 5}}, Places: []api.Place{{Prefix: toPrefix("0010"), Region: 7}}}
}

type meant struct {
	text string
	w    api.World
	want api.Answer
}

func sameMeaning(t *testing.T, l []meant) {
	t.Helper()
	for _, k := range l {
		code := compiled(t, k.text)
		for _, fuel := range []int{len(code), len(code) + 1, math.MaxInt} {
			a, errno := steer.Run(code, k.w, fuel)
			if errno != api.OK || !sameAnswer(a, k.want) {
				t.Errorf("Run of %q in %+v with fuel %d = %+v, %d, want %+v", k.text, k.w, fuel, a, errno, k.want)
			}
		}
	}
}

func TestMeaningOfTheExample(t *testing.T) { // P7, P9
	sameMeaning(t, []meant{
		{example, asked(0xA0000000, 32, 0), answer(30, 2, 1, 2)}, {example, asked(0xA0000000, 1, 6, 5), answer(30, 2, 1, 2)},
		{example, asked(0xC0000000, 32, 6), answer(30, 2, 4)}, {example, asked(0xC0000000, 32, 6, 4), answer(30, 2, 3)}, {example, asked(0xC0000000, 32, 6, 3, 4, 5), answer(30, 2, 0)},
		{example, asked(0x20000000, 32, 0), answer(30, 4, 8)}, {example, asked(0x20000000, 32, 0, 8), answer(30, 4, 9)}, {example, asked(0x20000000, 32, 0, 8, 9), answer(30, 4, 5, 5)},
		{example, asked(0x30000000, 32, 0), answer(30, 4, 6)}, {example, api.World{Addr: 0x30000000, Bits: 32}, answer(30, 1, 6)},
	})
}

func TestMeaningOfServers(t *testing.T) { // P7: the order stays, and it does not matter what is down
	sameMeaning(t, []meant{
		{"a:{5,3,63,0}", api.World{}, answer(86400, 0, 5, 3, 63, 0)}, {"a:{5,3}", api.World{Down: []int{5, 3}}, answer(86400, 0, 5, 3)}, {"a:{" + sixteen + "}", asked(77, 32, 5), answer(86400, 0, 0, 1, 2, 3, 4, 5, 6, 7, 8, 9, 10, 11, 12, 13, 14, 15)},
		{"a:{1};b:{2}", api.World{}, answer(86400, 0, 2)}, {"a:{1};b:{2};c:=a", api.World{}, answer(86400, 0, 1)}, {"a:{1};b:=a;c:=b;d:t(5,=c)", api.World{}, answer(5, 0, 1)},
	})
}

func TestMeaningOfAPool(t *testing.T) { // P7
	const text = "a:w(7*2,3*1,63*4|@2)"
	sameMeaning(t, []meant{
		{text, asked(0, 32, 0), answer(86400, 0, 7)}, {text, asked(0, 32, 1), answer(86400, 0, 7)}, {text, asked(0, 32, 2), answer(86400, 0, 3)}, {text, asked(0, 32, 3), answer(86400, 0, 63)}, {text, asked(0, 32, 6), answer(86400, 0, 63)}, {text, asked(0, 32, 7), answer(86400, 0, 7)}, {text, asked(0, 32, 1<<32-1), answer(86400, 0, 63)},
		{text, asked(0, 32, 0, 7), answer(86400, 0, 3)}, {text, asked(0, 32, 1, 7), answer(86400, 0, 63)}, {text, asked(0, 32, 5, 7), answer(86400, 0, 3)}, {text, asked(0, 32, 5, 3, 63), answer(86400, 0, 7)}, {text, asked(0, 32, 2, 3), answer(86400, 0, 63)}, {text, asked(0, 32, 5, 7, 3, 63), answer(86400, 0, 5, 5)}, {text, asked(0, 32, 5, 63, 63, 3, 7, -1), answer(86400, 0, 5, 5)},
		{"a:w(0*1|{1})", api.World{Draw: 1<<32 - 1}, answer(86400, 0, 0)}, {"a:w(0*1|{1})", api.World{Down: []int{0}}, answer(86400, 0, 1)}, {"a:w(0*1000|t(9,{1}))", api.World{Down: []int{0}}, answer(9, 0, 1)},
		{"a:w(" + strings.ReplaceAll(sixteen, ",", "*1000,") + "*1000|@0)", api.World{Draw: 15999}, answer(86400, 0, 15)}, {"a:w(" + strings.ReplaceAll(sixteen, ",", "*1000,") + "*1000|@0)", api.World{Draw: 16000}, answer(86400, 0, 0)}, {"a:w(" + strings.ReplaceAll(sixteen, ",", "*1000,") + "*1000|@0)", api.World{Draw: 14999}, answer(86400, 0, 14)},
	})
}

func TestMeaningOfAChain(t *testing.T) { // P7
	sameMeaning(t, []meant{
		{"a:f(9,63,0|@2)", asked(0, 32, 1), answer(86400, 0, 9)}, {"a:f(9,63,0|@2)", asked(0, 32, 1, 9), answer(86400, 0, 63)}, {"a:f(9,63,0|@2)", asked(0, 32, 1, 63), answer(86400, 0, 9)}, {"a:f(9,63,0|@2)", asked(0, 32, 1, 63, 9), answer(86400, 0, 0)}, {"a:f(9,63,0|@2)", asked(0, 32, 1, 63, 9, 0), answer(86400, 0, 5, 5)},
		{"a:f(1|f(2|f(3|w(4*7|{5}))))", asked(0, 32, 1, 1, 2, 3), answer(86400, 0, 4)}, {"a:f(1|f(2|f(3|w(4*7|{5}))))", asked(0, 32, 1, 1, 2, 3, 4), answer(86400, 0, 5)},
		{"a:f(1|{1})", asked(0, 32, 1, -1, 65, math.MaxInt, math.MinInt, 257), answer(86400, 0, 1)}, {"a:f(1|t(7,{1}))", asked(0, 32, 1, 1), answer(7, 0, 1)},
	})
}

func TestMeaningOfAMapOfPrefixes(t *testing.T) { // P7
	const text = "a:m(1:{1},10:{2},100:{3},01:{4}|{5})"
	ones := strings.Repeat("1", 32)
	sameMeaning(t, []meant{
		{text, asked(0xC0000000, 32, 0), answer(86400, 2, 1)}, {text, asked(0xA0000000, 32, 0), answer(86400, 3, 2)}, {text, asked(0x80000000, 32, 0), answer(86400, 3, 3)}, {text, asked(0x40000000, 32, 0), answer(86400, 2, 4)}, {text, asked(0, 32, 0), answer(86400, 2, 5)},
		{text, asked(0xFFFFFFFF, 0, 0), answer(86400, 2, 5)}, {text, asked(0xFFFFFFFF, 1, 0), answer(86400, 3, 3)}, {text, asked(0xFFFFFFFF, 2, 0), answer(86400, 2, 1)}, {text, asked(0x9FFFFFFF, 32, 0), answer(86400, 3, 3)},
		{"a:m(" + ones + ":{1}|{2})", asked(0xFFFFFFFF, 32, 0), answer(86400, 32, 1)}, {"a:m(" + ones + ":{1}|{2})", asked(0xFFFFFFFF, 31, 0), answer(86400, 32, 2)}, {"a:m(" + ones + ":{1}|{2})", asked(0xFFFFFFFC, 32, 0), answer(86400, 31, 2)}, {"a:m(" + ones + ":{1}|{2})", asked(0, 32, 0), answer(86400, 1, 2)},
		{"a:m(1:m(0:{1}|{2})|{3})", asked(0x80000000, 32, 0), answer(86400, 1, 2)}, {"a:m(1:m(1000:{1}|{2})|{3})", asked(0x90000000, 32, 0), answer(86400, 4, 2)}, {"a:m(1111:{1}|m(0:{2}|{3}))", asked(0xE0000000, 32, 0), answer(86400, 4, 3)}, {"a:m(1111:{1}|m(0:{2}|{3}))", asked(0, 32, 0), answer(86400, 1, 2)},
	})
}

func TestMeaningOfAMapOfRegions(t *testing.T) { // P7
	const text = "a:g(7:{1},0:{2},99:{3}|{4})"
	places := []api.Place{{Prefix: toPrefix("1"), Region: 0}, {Prefix: toPrefix("10"), Region: 99}, {Prefix: toPrefix("100"), Region: 50}, {Prefix: toPrefix("01"), Region: 7}}
	at := func(addr int, bits int) api.World { return api.World{Addr: addr, Bits: bits, Places: places} }
	sameMeaning(t, []meant{
		{text, api.World{Addr: 5, Bits: 32}, answer(86400, 0, 4)}, {text, api.World{Places: []api.Place{{Prefix: api.Prefix{}, Region: 7}}}, answer(86400, 0, 1)}, {text, api.World{Places: []api.Place{{Prefix: api.Prefix{}, Region: 8}}}, answer(86400, 0, 4)},
		{text, at(0xC0000000, 32), answer(86400, 2, 2)}, {text, at(0xA0000000, 32), answer(86400, 3, 3)}, {text, at(0x80000000, 32), answer(86400, 3, 4)}, {text, at(0x40000000, 32), answer(86400, 2, 1)}, {text, at(0x00000000, 32), answer(86400, 2, 4)},
		{text, at(0xFFFFFFFF, 1), answer(86400, 3, 4)}, {text, at(0xFFFFFFFF, 2), answer(86400, 2, 2)}, {text, at(0xFFFFFFFF, 0), answer(86400, 2, 4)},
		{"a:g(7:g(7:{1}|{2})|{3})", at(0x40000000, 32), answer(86400, 2, 1)}, {"a:g(0:m(1111:{1}|{2})|{3})", at(0xE0000000, 32), answer(86400, 4, 2)}, {"a:m(1:g(0:{1}|{2})|{3})", at(0xE0000000, 32), answer(86400, 2, 1)},
	})
}

func TestMeaningOfTTLsAndAliases(t *testing.T) { // P7
	long := make([]int, 5000)
	sameMeaning(t, []meant{
		{"a:t(60,t(30,{1}))", api.World{}, answer(30, 0, 1)}, {"a:t(30,t(60,{1}))", api.World{}, answer(30, 0, 1)}, {"a:t(1,@0)", api.World{}, answer(1, 0)}, {"a:t(86400,{1})", api.World{}, answer(86400, 0, 1)}, {"a:t(86399,{1})", api.World{}, answer(86399, 0, 1)}, {"a:t(256,{1})", api.World{}, answer(256, 0, 1)}, {"a:t(65536,{1})", api.World{}, answer(65536, 0, 1)},
		{"a:t(9,m(1:t(3,{1}),0:t(20,{2})|{3}))", api.World{}, answer(9, 1, 2)}, {"a:t(9,m(1:t(3,{1}),0:t(20,{2})|{3}))", api.World{Addr: 1 << 31, Bits: 1}, answer(3, 1, 1)},
		{"a:@0", api.World{}, answer(86400, 0)}, {"a:@1", api.World{Aliases: [][]int{{1}}}, answer(86400, 0)}, {"a:@1", api.World{Aliases: [][]int{{1}, {-7, 1 << 62, 3, 3}}, Down: []int{3}}, answer(86400, 0, -7, 1<<62, 3, 3)}, {"a:@0", api.World{Aliases: [][]int{long}}, answer(86400, 0, long...)}, {"a:@15", api.World{Aliases: make([][]int, 100000)}, answer(86400, 0)}, {"a:@15", api.World{Aliases: append(make([][]int, 15), []int{4})}, answer(86400, 0, 4)},
	})
}

func TestMeaningThroughManyRules(t *testing.T) { // P7: a rule that names another is not deeper for that
	text := "a:{7}"
	for c := byte('b'); c <= 'z'; c++ {
		text += ";" + string(c) + ":" + within(11, "="+string(c-1))
	}
	sameMeaning(t, []meant{{text, api.World{}, answer(1, 0, 7)}})
	text = "a:{7}"
	for c := byte('b'); c <= 'z'; c++ {
		text += ";" + string(c) + ":m(0:m(1:{1}|=" + string(c-1) + ")|{2})"
	}
	sameMeaning(t, []meant{{text, api.World{}, answer(86400, 1, 7)}, {text, api.World{Addr: 1 << 31, Bits: 32}, answer(86400, 1, 2)}})
	full := rules + ";f:f(0,1,2,3,4,5,6|=e)"
	sameMeaning(t, []meant{{full, api.World{}, answer(86400, 0, 0)}, {full, api.World{Down: []int{0, 1, 2, 3, 4, 5, 6}}, answer(86400, 3, 0, 1, 2, 3, 4, 5, 6, 7, 8)}})
}

func TestMeaningDrawn(t *testing.T) { // P7, P9
	r := rand.New(rand.NewSource(12))
	tried := 0
	for range 4000 {
		tree := newTree(r, 1+r.Intn(6), 1+r.Intn(15))
		text := tree.text(r, letters, r.Intn(10))
		if len(text) > api.MaxText {
			continue
		}
		code, errno := steer.Compile(text)
		if tree.size() > api.MaxSize && errno == api.ErrFull {
			continue
		}
		if errno != api.OK || len(code) < 1 || len(code) > api.MaxCode || tree.size() > api.MaxSize {
			t.Fatalf("Compile(%q) = %d bytes, %d; its size is %d", text, len(code), errno, tree.size())
		}
		tried++
		for range 5 {
			w := tree.world(r)
			a, errno := steer.Run(code, w, len(code))
			want := tree.meaning(w)
			if errno != api.OK || !sameAnswer(a, want) {
				t.Fatalf("Run of %q in %+v = %+v, %d, want %+v", text, w, a, errno, want)
			}
		}
	}
	if tried < 2000 {
		t.Errorf("only %d were tried", tried)
	}
}

func TestRunWrong(t *testing.T) { // P1, P9
	code := compiled(t, example)
	many := []api.Place{}
	for i := range api.MaxPlaces + 1 {
		many = append(many, api.Place{Prefix: api.Prefix{Value: i, Len: 32}})
	}
	place := func(value int, n int, region int) []api.Place {
		return []api.Place{{Prefix: toPrefix("1"), Region: 1}, {Prefix: api.Prefix{Value: value, Len: n}, Region: region}}
	}
	right := api.World{Addr: 1<<32 - 1, Bits: 32, Draw: 1<<32 - 1, Places: many[:api.MaxPlaces]}
	a, errno := steer.Run(code, right, len(code))
	if errno != api.OK || !sameAnswer(a, answer(30, 2, 5)) {
		t.Errorf("Run in a world at its bounds = %+v, %d", a, errno)
	}
	for _, k := range []struct {
		w    api.World
		fuel int
	}{
		{api.World{}, -1}, {api.World{}, math.MinInt},
		{api.World{Addr: -1}, 100}, {api.World{Addr: 1 << 32}, 100}, {api.World{Addr: math.MaxInt}, 100}, {api.World{Addr: math.MinInt}, 100},
		{api.World{Bits: -1}, 100}, {api.World{Bits: 33}, 100}, {api.World{Bits: math.MaxInt}, 100}, {api.World{Bits: math.MinInt}, 100},
		{api.World{Draw: -1}, 100}, {api.World{Draw: 1 << 32}, 100}, {api.World{Draw: math.MaxInt}, 100}, {api.World{Draw: math.MinInt}, 100},
		{api.World{Places: many}, 100}, {api.World{Places: make([]api.Place, 1000000)}, 100},
		{api.World{Places: place(0, 1, -1)}, 100}, {api.World{Places: place(0, 1, 100)}, 100}, {api.World{Places: place(0, 1, math.MaxInt)}, 100}, {api.World{Places: place(0, 1, math.MinInt)}, 100},
		{api.World{Places: place(1<<31, 1, 1)}, 100}, {api.World{Places: place(1<<31, 1, 2)}, 100},
		{api.World{Places: place(1, 31, 1)}, 100}, {api.World{Places: place(0, 33, 1)}, 100}, {api.World{Places: place(0, -1, 1)}, 100}, {api.World{Places: place(-1, 32, 1)}, 100}, {api.World{Places: place(1<<32, 32, 1)}, 100},
		{api.World{Bits: 33}, 0}, {api.World{Draw: -1}, -1},
	} {
		for _, bytes := range [][]byte{code, nil, {}, {0}, {255}, make([]byte, 40000)} {
			a, errno := steer.Run(bytes, k.w, k.fuel)
			if errno != api.ErrArg || !isNothing(a) {
				t.Errorf("Run in the world %+v with fuel %d = %+v, %d, want ErrArg", k.w, k.fuel, a, errno)
			}
		}
	}
}

func TestRunFuel(t *testing.T) { // P9
	r := rand.New(rand.NewSource(13))
	for range 600 {
		tree := newTree(r, 1+r.Intn(6), 1+r.Intn(15))
		text := tree.text(r, letters, 0)
		if len(text) > api.MaxText || tree.size() > 200 {
			continue
		}
		code := compiled(t, text)
		w := tree.world(r)
		want := tree.meaning(w)
		enough := false
		for fuel := 0; fuel <= len(code)+2; fuel++ {
			a, errno := steer.Run(code, w, fuel)
			switch {
			case errno == api.OK && sameAnswer(a, want):
				enough = true
			case enough || errno != api.ErrFuel || !isNothing(a) || fuel >= len(code):
				t.Fatalf("Run of %q in %+v with fuel %d of %d = %+v, %d", text, w, fuel, len(code), a, errno)
			}
		}
	}
}

// otherBytes are drawn, or code with some bytes more, fewer, or others.
func otherBytes(r *rand.Rand, good []byte) []byte {
	c := slices.Clone(good)
	switch r.Intn(4) {
	case 0:
		c = make([]byte, r.Intn(40))
		r.Read(c)
	case 1:
		c = make([]byte, r.Intn(40))
		for i := range c {
			c[i] = "{wfmgt@=\x00\x01\x02\x10"[r.Intn(12)]
		}
	case 2:
		c = c[:r.Intn(len(c)+1)]
	}
	for range r.Intn(4) {
		i := r.Intn(len(c) + 1)
		switch {
		case r.Intn(6) == 0:
			c = slices.Insert(c, i, byte(r.Intn(256)))
		case i < len(c) && r.Intn(6) == 0:
			c = slices.Delete(c, i, i+1)
		case i < len(c):
			c[i] = byte(r.Intn(256))
		}
	}
	return c
}

func TestRunOtherBytes(t *testing.T) { // P1, P2, P9
	r := rand.New(rand.NewSource(14))
	seen := [api.ErrNone + 1]int{}
	for range 3000 {
		tree := newTree(r, 1+r.Intn(3), 1+r.Intn(8))
		good, errno := steer.Compile(tree.text(r, letters, 0))
		if errno != api.OK {
			continue
		}
		for range 20 {
			c := otherBytes(r, good)
			w := tree.world(r)
			fuel := []int{r.Intn(10), len(c), math.MaxInt}[r.Intn(3)]
			before := slices.Clone(c)
			a, errno := steer.Run(c, w, fuel)
			if errno != api.OK && (errno != api.ErrCode && errno != api.ErrFuel || !isNothing(a)) {
				t.Fatalf("Run of the bytes %v = %+v, %d", c, a, errno)
			}
			seen[errno]++
			b, again := steer.Run(c, w, fuel)
			if !slices.Equal(c, before) || !sameAnswer(a, b) || errno != again {
				t.Fatalf("Run of the bytes %v = %+v, %d, and then %+v, %d", before, a, errno, b, again)
			}
		}
	}
	if seen[api.OK] == 0 || seen[api.ErrCode] == 0 || seen[api.ErrFuel] == 0 {
		t.Errorf("Run of other bytes: %v", seen)
	}
}

func TestRunEachByte(t *testing.T) { // P1, P9: each byte of some code, as each other byte
	places := []api.Place{{Prefix: toPrefix("0"), Region: 7}, {Prefix: toPrefix("11"), Region: 1}}
	for _, text := range []string{example, "a:m(01:w(1*300,2*5|@1),1:g(7:{1,2}|f(5|@3))|t(70000,@0))"} {
		code := compiled(t, text)
		for i := range code {
			for c := range 256 {
				other := slices.Clone(code)
				other[i] = byte(c)
				for _, addr := range []int{0, 1 << 30, 1 << 31, 3 << 30} {
					w := api.World{Addr: addr, Bits: 32, Places: places, Down: []int{5, 8}}
					a, errno := steer.Run(other, w, len(other))
					if errno != api.OK && (errno != api.ErrCode && errno != api.ErrFuel || !isNothing(a)) {
						t.Fatalf("Run of the bytes %v = %+v, %d", other, a, errno)
					}
				}
			}
		}
	}
}

func TestRunEnds(t *testing.T) { // P1: soon, even if the bytes are many and the fuel is too
	start := time.Now()
	head := compiled(t, "a:m(0:t(5,f(1|g(1:w(1*1|@1)|@2)))|@0)")
	for c := range 256 {
		for _, unit := range [][]byte{{byte(c)}, {byte(c), 1}, {byte(c), 1, 1}, {byte(c), 1, 0, 0}, {byte(c), 16, 0, 0, 0}, {byte(c), 1, 0, 0, 0, 0, 0, 0, 0}, head[:1+c%len(head)]} {
			steer.Run(slices.Repeat(unit, 100000), api.World{Down: []int{0, 1}}, math.MaxInt)
		}
	}
	steer.Run(make([]byte, 1<<26), api.World{Down: make([]int, 1<<22)}, math.MaxInt)
	steer.Run(slices.Repeat([]byte{'f', 1, 0}, 1<<22), api.World{Down: make([]int, 1<<22)}, math.MaxInt)
	if time.Since(start) > time.Minute {
		t.Errorf("Run took %v", time.Since(start))
	}
}

// roomy is a list with something in its spare room, and a copy of all of it.
func roomy(l []int) ([]int, []int) {
	all := append(slices.Clone(l), 111, 222, 333)
	return all[:len(l)], slices.Clone(all)
}

func TestRunLeavesTheWorld(t *testing.T) { // P2
	down, allDown := roomy([]int{8, 9, 3})
	alias, allAlias := roomy([]int{5, 5, 64})
	places := []api.Place{{Prefix: toPrefix("0010"), Region: 7}, {Prefix: toPrefix("1"), Region: 3}, {Prefix: toPrefix("11"), Region: 9}, {Region: 55}}
	allPlaces := slices.Clone(places)
	aliases := [][]int{nil, {1}, alias, {77}}
	w := api.World{Addr: 0x20000000, Bits: 32, Down: down, Aliases: aliases[:3], Places: places[:2]}
	room := append(slices.Clone(compiled(t, example)), 1, 2, 3)
	allCode := slices.Clone(room)
	code := room[:len(room)-3]
	for _, fuel := range []int{-1, 0, 1, 2, len(code)} {
		a, errno := steer.Run(code, w, fuel)
		if fuel == len(code) && (errno != api.OK || !sameAnswer(a, answer(30, 4, 5, 5, 64))) {
			t.Errorf("Run = %+v, %d", a, errno)
		}
		for i := range a.Servers[:cap(a.Servers)] {
			a.Servers[:cap(a.Servers)][i] = -1
		}
	}
	if !slices.Equal(down[:len(allDown)], allDown) || !slices.Equal(alias[:len(allAlias)], allAlias) || !slices.Equal(places, allPlaces) || !slices.Equal(room, allCode) || aliases[0] != nil || !slices.Equal(aliases[1], []int{1}) || !slices.Equal(aliases[3], []int{77}) {
		t.Errorf("Run wrote into what was handed in, or gave it out: %v, %v, %v, %v", down, aliases, places, room)
	}
}

func TestRunAnswersAreFresh(t *testing.T) { // P2
	for _, k := range []meant{
		{"a:{5,3}", api.World{}, answer(86400, 0, 5, 3)}, {"a:f(4|@0)", api.World{}, answer(86400, 0, 4)}, {"a:w(4*2|@0)", api.World{}, answer(86400, 0, 4)}, {"a:@0", api.World{Aliases: [][]int{{6, 6}}}, answer(86400, 0, 6, 6)},
	} {
		code := compiled(t, k.text)
		first, _ := steer.Run(code, k.w, len(code))
		second, _ := steer.Run(code, k.w, len(code))
		room := first.Servers[:cap(first.Servers)]
		for i := range room {
			room[i] = 99
		}
		third, errno := steer.Run(code, k.w, len(code))
		if errno != api.OK || !sameAnswer(second, k.want) || !sameAnswer(third, k.want) {
			t.Errorf("Run of %q, after the caller wrote into an answer: %+v, %+v, %d", k.text, second, third, errno)
		}
		for i := range code {
			code[i] = 0
		}
		for _, l := range k.w.Aliases {
			l[0] = 0
		}
		if !sameAnswer(third, k.want) {
			t.Errorf("Run of %q: the answer hangs on what was handed in: %+v", k.text, third)
		}
	}
}
