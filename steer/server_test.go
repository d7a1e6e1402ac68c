package steer_test

import (
	"fmt"
	"math"
	"slices"
	"strings"
	"testing"

	"steer/api"
	"steer/steer"
)

// loaded is a new server with this policy.
func loaded(t *testing.T, text string) *steer.Server {
	t.Helper()
	s := steer.Start()
	if s == nil {
		t.Fatal("Start gives nothing")
	}
	load(t, s, text)
	return s
}

func load(t *testing.T, s *steer.Server, text string) {
	t.Helper()
	errno, at := s.Load(text)
	if errno != api.OK || at != 0 {
		t.Fatalf("Load(%q) = %d, %d", text, errno, at)
	}
}

// answers compares what a server answers for an address of which all bits are known.
func answers(t *testing.T, s *steer.Server, addr int, want api.Answer) {
	t.Helper()
	a, errno := s.Query(addr, 32, 0)
	if errno != api.OK || !sameAnswer(a, want) {
		t.Errorf("Query(%#x, 32, 0) = %+v, %d, want %+v", addr, a, errno, want)
	}
}

// refuses tells that a query is an error, with nothing beside it.
func refuses(t *testing.T, s *steer.Server, addr int, bits int, draw int, want api.Errno) {
	t.Helper()
	a, errno := s.Query(addr, bits, draw)
	if errno != want || !isNothing(a) {
		t.Errorf("Query(%d, %d, %d) = %+v, %d, want %d", addr, bits, draw, a, errno, want)
	}
}

func is(t *testing.T, call string, errno api.Errno, want api.Errno) {
	t.Helper()
	if errno != want {
		t.Errorf("%s = %d, want %d", call, errno, want)
	}
}

var oddNumbers = []int{0, 1, -1, 2, 15, 16, 17, 31, 32, 33, 63, 64, 65, 99, 100, 1 << 31, 1<<32 - 1, 1 << 32, math.MaxInt32, math.MinInt32, math.MaxInt, math.MinInt}

func TestStart(t *testing.T) { // P10
	refuses(t, steer.Start(), 0, 32, 0, api.ErrNone)
	for server := range api.MaxServers {
		answers(t, loaded(t, fmt.Sprintf("a:t(9,f(%d|@0))", server)), 0, answer(9, 0, server))
		answers(t, loaded(t, fmt.Sprintf("a:w(%d*7|@0)", server)), 0, answer(86400, 0, server))
	}
	for k := range api.MaxAliases {
		answers(t, loaded(t, fmt.Sprintf("a:@%d", k)), 0, answer(86400, 0))
	}
	for region := range api.MaxRegion + 1 {
		answers(t, loaded(t, fmt.Sprintf("a:g(%d:{1}|{2})", region)), 1<<31, answer(86400, 0, 2))
	}
}

// notLoaded: texts that Load refuses, with the error and its place.
var notLoaded = []struct {
	text  string
	errno api.Errno
	at    int
}{
	{"", api.ErrText, 0}, {"a:{1,2", api.ErrText, 6}, {"a:{01}", api.ErrText, 4}, {"a:{1};", api.ErrText, 6}, {"a:{1};b:", api.ErrText, 8}, {"a:{1}\x00", api.ErrText, 5},
	{strings.Repeat(" ", api.MaxText+1), api.ErrLong, 0}, {"a:{1}" + strings.Repeat(" ", api.MaxText-4), api.ErrLong, 0}, {strings.Repeat("a:{1};", 1000000), api.ErrLong, 0},
	{"a:" + within(12, "@1"), api.ErrDeep, 2 + 12*len("t(1,")}, {"a:{" + sixteen + ",16}", api.ErrMany, 4 + len(sixteen)}, {"a:{1};a:{2}", api.ErrName, 6}, {"a:=a", api.ErrName, 3}, {"a:{64}", api.ErrNumber, 3}, {"a:w(1*0|{99})", api.ErrNumber, 6}, {"a:{1,1}", api.ErrTwice, 5},
	{rules + ";f:f(0,1,2,3,4,5,6,7|=e)", api.ErrFull, 0}, {rules + ";f:m(0:=e|=e)", api.ErrFull, 0}, {rules + ";f:m(0:=e|=e);g:=f", api.ErrFull, 0},
	{rules + ";f:m(0:=e|=e);g:=z", api.ErrName, len(rules) + len(";f:m(0:=e|=e);g:=")}, {rules + ";f:m(0:=e|=e", api.ErrText, len(rules) + len(";f:m(0:=e|=e")},
}

func TestLoadWrong(t *testing.T) { // P1, P11: what was loaded stays, or that nothing was
	for _, k := range notLoaded {
		empty := steer.Start()
		s := loaded(t, "a:{7}")
		for _, x := range []*steer.Server{empty, s} {
			errno, at := x.Load(k.text)
			if errno != k.errno || at != k.at {
				t.Errorf("Load(%.80q) = %d, %d, want %d, %d", k.text, errno, at, k.errno, k.at)
			}
		}
		refuses(t, empty, 0, 32, 0, api.ErrNone)
		answers(t, s, 0, answer(86400, 0, 7))
		load(t, s, "a:{8}")
		answers(t, s, 0, answer(86400, 0, 8))
	}
}

func TestLoad(t *testing.T) { // P11: the last one is the policy, and the world around it stays
	s := steer.Start()
	is(t, "Mark", s.Mark(1, false), api.OK)
	is(t, "Alias", s.Alias(0, []int{5, 6, 5}), api.OK)
	is(t, "Locate", s.Locate([]api.Place{{Prefix: toPrefix("1"), Region: 3}}), api.OK)
	refuses(t, s, 0, 32, 0, api.ErrNone)
	for range 2 {
		load(t, s, "a:f(1|{2})")
		answers(t, s, 0, answer(86400, 0, 2))
		load(t, s, "a:@0")
		answers(t, s, 0, answer(86400, 0, 5, 6, 5))
		load(t, s, "a:g(3:{1}|{2})")
		answers(t, s, 1<<31, answer(86400, 1, 1))
		load(t, s, " a : t ( 30 , { 9 , 3 } ) "+strings.Repeat("\n", api.MaxText-26))
		answers(t, s, 0, answer(30, 0, 9, 3))
		load(t, s, rules+";f:f(0,1,2,3,4,5,6|=e)")
		answers(t, s, 0, answer(86400, 0, 0))
	}
}

func TestMark(t *testing.T) { // P12
	for server := range api.MaxServers {
		other := (server + 1) % api.MaxServers
		s := loaded(t, fmt.Sprintf("a:f(%d,%d|{%d,%d})", server, other, other, server))
		call := fmt.Sprintf("Mark(%d)", server)
		is(t, call, s.Mark(server, true), api.OK)
		answers(t, s, 0, answer(86400, 0, server))
		for range 2 {
			is(t, call, s.Mark(server, false), api.OK)
			answers(t, s, 0, answer(86400, 0, other))
		}
		is(t, call, s.Mark(other, false), api.OK)
		answers(t, s, 0, answer(86400, 0, other, server))
		is(t, call, s.Mark(server, true), api.OK)
		answers(t, s, 0, answer(86400, 0, server))
	}
}

func TestMarkWrong(t *testing.T) { // P1, P12
	chain := loaded(t, "a:f(5,0,63|@0)")
	is(t, "Mark", chain.Mark(5, false), api.OK)
	for _, server := range oddNumbers {
		if server >= 0 && server < api.MaxServers {
			continue
		}
		for _, up := range []bool{true, false} {
			is(t, fmt.Sprintf("Mark(%d, %v)", server, up), chain.Mark(server, up), api.ErrArg)
			answers(t, chain, 0, answer(86400, 0, 0))
		}
	}
	is(t, "Mark", chain.Mark(0, false), api.OK)
	answers(t, chain, 0, answer(86400, 0, 63))
}

func TestAlias(t *testing.T) { // P12
	s := steer.Start()
	for k := range api.MaxAliases {
		is(t, fmt.Sprintf("Alias(%d)", k), s.Alias(k, []int{k, 63, 63, 0}[:k%5]), api.OK)
	}
	is(t, "Mark", s.Mark(63, false), api.OK)
	for k := range api.MaxAliases {
		load(t, s, fmt.Sprintf("a:t(60,@%d)", k))
		answers(t, s, 0, answer(60, 0, []int{k, 63, 63, 0}[:k%5]...))
	}
	load(t, s, "a:@15;b:f(63|=a)")
	full := []int{63, 0, 1, 2, 2, 2, 5, 4, 3, 63, 63, 9, 8, 7, 6, 62}
	for _, l := range [][]int{full, {1}, {}, full[1:], nil, full[:2], {63, 63}} {
		is(t, fmt.Sprintf("Alias(15, %v)", l), s.Alias(15, l), api.OK)
		answers(t, s, 0, answer(86400, 0, l...))
	}
}

func TestAliasWrong(t *testing.T) { // P1, P12
	s := steer.Start()
	for k := range api.MaxAliases {
		is(t, fmt.Sprintf("Alias(%d)", k), s.Alias(k, []int{k, 40}), api.OK)
	}
	type wrong struct {
		k int
		l []int
	}
	calls := []wrong{{0, make([]int, 17)}, {15, make([]int, 17)}, {0, make([]int, 10000000)}, {-1, make([]int, 17)}, {16, []int{64}}}
	for _, n := range oddNumbers {
		if n < 0 || n >= api.MaxAliases {
			calls = append(calls, wrong{n, nil}, wrong{n, []int{1}})
		}
		if n < 0 || n >= api.MaxServers {
			calls = append(calls, wrong{0, []int{n}}, wrong{15, []int{1, n}}, wrong{3, []int{n, 1}}, wrong{7, append(make([]int, 15), n)}, wrong{n, []int{n}})
		}
	}
	for _, c := range calls {
		is(t, fmt.Sprintf("Alias(%d, %d servers)", c.k, len(c.l)), s.Alias(c.k, c.l), api.ErrArg)
	}
	for k := range api.MaxAliases {
		load(t, s, fmt.Sprintf("a:@%d", k))
		answers(t, s, 0, answer(86400, 0, k, 40))
	}
}

// manyPlaces are places of 32 bits each, with all regions from 0 on.
func manyPlaces(n int) []api.Place {
	l := []api.Place{}
	for i := range n {
		l = append(l, api.Place{Prefix: api.Prefix{Value: i, Len: 32}, Region: i % (api.MaxRegion + 1)})
	}
	return l
}

func TestLocate(t *testing.T) { // P12: these are the places, in the place of all that were
	s := loaded(t, "a:g(0:{10},63:{11},99:{12},3:{13}|{14})")
	is(t, "Locate(64 places)", s.Locate(manyPlaces(api.MaxPlaces)), api.OK)
	answers(t, s, 0, answer(86400, 32, 10))
	answers(t, s, 63, answer(86400, 32, 11))
	answers(t, s, 3, answer(86400, 32, 13))
	answers(t, s, 4, answer(86400, 32, 14))
	answers(t, s, 64, answer(86400, 26, 14))
	is(t, "Locate", s.Locate([]api.Place{{Prefix: toPrefix("1"), Region: 99}}), api.OK)
	answers(t, s, 63, answer(86400, 1, 14))
	answers(t, s, 1<<31, answer(86400, 1, 12))
	is(t, "Locate", s.Locate([]api.Place{{Prefix: toPrefix("0"), Region: 3}, {Region: 0}, {Prefix: toPrefix("11"), Region: 3}}), api.OK)
	answers(t, s, 63, answer(86400, 1, 13))
	answers(t, s, 1<<31, answer(86400, 2, 10))
	answers(t, s, 3<<30, answer(86400, 2, 13))
	for _, none := range [][]api.Place{nil, {}} {
		is(t, "Locate", s.Locate([]api.Place{{Region: 3}}), api.OK)
		answers(t, s, 3<<30, answer(86400, 0, 13))
		is(t, "Locate of nothing", s.Locate(none), api.OK)
		answers(t, s, 3<<30, answer(86400, 0, 14))
	}
}

func TestLocateWrong(t *testing.T) { // P1, P12
	one := func(value int, n int, region int) []api.Place {
		return []api.Place{{Prefix: toPrefix("01"), Region: 3}, {Prefix: api.Prefix{Value: value, Len: n}, Region: region}}
	}
	calls := [][]api.Place{
		manyPlaces(api.MaxPlaces + 1), make([]api.Place, 2), make([]api.Place, 1000000),
		one(1<<30, 2, 3), one(1<<30, 2, 4), one(1, 31, 1), one(1<<31, 0, 1), one(1<<29, 2, 1), one(0, 33, 1), one(0, -1, 1), one(-1, 32, 1), one(1<<32, 32, 1), one(1<<32, 0, 1), one(1<<33, 1, 1), one(0, 1, -1), one(0, 1, 100),
	}
	for _, n := range oddNumbers {
		if n < 0 || n > 32 {
			calls = append(calls, one(0, n, 1))
		}
		if n < 0 || n > 1<<32-1 {
			calls = append(calls, one(n, 32, 1))
		}
		if n < 0 || n > api.MaxRegion {
			calls = append(calls, one(0, 1, n))
		}
	}
	s := loaded(t, "a:g(3:{1},5:{2}|{0})")
	is(t, "Locate", s.Locate([]api.Place{{Prefix: toPrefix("1"), Region: 3}, {Prefix: toPrefix("11"), Region: 5}}), api.OK)
	for _, l := range calls {
		is(t, fmt.Sprintf("Locate(%.80v)", fmt.Sprint(l[:2])), s.Locate(l), api.ErrArg)
		answers(t, s, 0, answer(86400, 1, 0))
		answers(t, s, 1<<31, answer(86400, 2, 1))
		answers(t, s, 3<<30, answer(86400, 2, 2))
	}
}

func TestQuery(t *testing.T) { // P13: the world of the section Examples, and the edges of what can be asked
	s := loaded(t, example)
	is(t, "Alias", s.Alias(2, []int{5, 5}), api.OK)
	is(t, "Locate", s.Locate([]api.Place{{Prefix: toPrefix("0010"), Region: 7}}), api.OK)
	for _, k := range []struct {
		addr, bits, draw int
		down             []int
		want             api.Answer
	}{
		{0xA0000000, 32, 0, nil, answer(30, 2, 1, 2)}, {0xA0000000, 1, 6, []int{5}, answer(30, 2, 1, 2)},
		{0xC0000000, 32, 6, nil, answer(30, 2, 4)}, {0xC0000000, 32, 6, []int{4}, answer(30, 2, 3)}, {0xC0000000, 32, 6, []int{3, 4, 5}, answer(30, 2, 0)}, {0xC0000000, 32, 1<<32 - 1, nil, answer(30, 2, 5)}, {1<<32 - 1, 32, 0, nil, answer(30, 2, 3)},
		{0x20000000, 32, 0, nil, answer(30, 4, 8)}, {0x20000000, 32, 0, []int{8}, answer(30, 4, 9)}, {0x20000000, 32, 0, []int{9, 8}, answer(30, 4, 5, 5)}, {0x20000000, 32, 0, []int{9, 8, 5}, answer(30, 4, 5, 5)},
		{0x30000000, 32, 0, nil, answer(30, 4, 6)}, {0x2FFFFFFF, 3, 0, nil, answer(30, 4, 8)}, {0x2FFFFFFF, 2, 0, nil, answer(30, 3, 6)}, {1<<32 - 1, 0, 0, nil, answer(30, 3, 6)}, {1<<32 - 1, 1, 0, nil, answer(30, 2, 1, 2)}, {1<<32 - 1, 2, 1, nil, answer(30, 2, 4)},
	} {
		for _, server := range k.down {
			is(t, "Mark", s.Mark(server, false), api.OK)
		}
		for range 2 {
			a, errno := s.Query(k.addr, k.bits, k.draw)
			if errno != api.OK || !sameAnswer(a, k.want) {
				t.Errorf("Query(%#x, %d, %d) with %v down = %+v, %d, want %+v", k.addr, k.bits, k.draw, k.down, a, errno, k.want)
			}
		}
		for _, server := range k.down {
			is(t, "Mark", s.Mark(server, true), api.OK)
		}
	}
}

func TestQueryWrong(t *testing.T) { // P1, P13: ErrArg comes before ErrNone
	empty := steer.Start()
	s := loaded(t, "a:m(1:w(1*1,2*1|@0)|{3})")
	for _, addr := range oddNumbers {
		for _, bits := range oddNumbers {
			for _, draw := range oddNumbers {
				if addr < 0 || addr > 1<<32-1 || bits < 0 || bits > 32 || draw < 0 || draw > 1<<32-1 {
					refuses(t, empty, addr, bits, draw, api.ErrArg)
					refuses(t, s, addr, bits, draw, api.ErrArg)
					continue
				}
				refuses(t, empty, addr, bits, draw, api.ErrNone)
				want := answer(86400, 1, 3)
				if addr >= 1<<31 && bits > 0 {
					want = answer(86400, 1, 1+draw%2)
				}
				a, errno := s.Query(addr, bits, draw)
				if errno != api.OK || !sameAnswer(a, want) {
					t.Errorf("Query(%d, %d, %d) = %+v, %d, want %+v", addr, bits, draw, a, errno, want)
				}
			}
		}
	}
}

func TestServerKeepsNothing(t *testing.T) { // P2: neither what is handed in, nor what stands behind it
	servers, allServers := roomy([]int{5, 6})
	places := []api.Place{{Prefix: toPrefix("1"), Region: 3}, {Prefix: toPrefix("11"), Region: 9}, {Region: 55}}
	allPlaces := slices.Clone(places)
	s := loaded(t, "a:g(3:@1|{2})")
	is(t, "Alias", s.Alias(1, servers), api.OK)
	is(t, "Alias", s.Alias(2, servers[:1]), api.OK)
	is(t, "Locate", s.Locate(places[:1]), api.OK)
	is(t, "Locate", s.Locate(places[:2]), api.OK)
	is(t, "Alias", s.Alias(1, allServers), api.ErrArg)
	is(t, "Locate", s.Locate(append(slices.Clone(places), places...)), api.ErrArg)
	answers(t, s, 1<<31, answer(86400, 2, 5, 6))
	if !slices.Equal(servers[:len(allServers)], allServers) || !slices.Equal(places, allPlaces) {
		t.Errorf("a call wrote into what was handed in: %v, %v", servers[:len(allServers)], places)
	}
	for i := range allServers {
		servers[:len(allServers)][i] = 77
	}
	for i := range places {
		places[i] = api.Place{Prefix: api.Prefix{Value: -1, Len: 50}, Region: 200}
	}
	answers(t, s, 1<<31, answer(86400, 2, 5, 6))
	answers(t, s, 3<<30, answer(86400, 2, 2))
	load(t, s, "a:@2")
	answers(t, s, 0, answer(86400, 0, 5))
}

func TestQueryAnswersAreFresh(t *testing.T) { // P2
	s := steer.Start()
	is(t, "Alias", s.Alias(0, []int{6, 6, 7}), api.OK)
	is(t, "Alias", s.Alias(1, []int{9}), api.OK)
	for _, k := range []struct {
		text string
		want api.Answer
	}{
		{"a:{5,3}", answer(86400, 0, 5, 3)}, {"a:f(4|@0)", answer(86400, 0, 4)}, {"a:w(4*2|@0)", answer(86400, 0, 4)}, {"a:@0", answer(86400, 0, 6, 6, 7)}, {"a:@1", answer(86400, 0, 9)}, {"a:@2", answer(86400, 0)},
	} {
		load(t, s, k.text)
		first, _ := s.Query(0, 32, 0)
		second, _ := s.Query(0, 32, 0)
		room := first.Servers[:cap(first.Servers)]
		for i := range room {
			room[i] = 63
		}
		if !sameAnswer(second, k.want) {
			t.Errorf("two answers of %q hang together: %+v", k.text, second)
		}
		answers(t, s, 0, k.want)
		is(t, "Alias", s.Alias(0, []int{1, 1, 1}), api.OK)
		if !sameAnswer(second, k.want) {
			t.Errorf("an answer of %q hangs on what is told later: %+v", k.text, second)
		}
		is(t, "Alias", s.Alias(0, []int{6, 6, 7}), api.OK)
	}
}

func TestServersApart(t *testing.T) { // P2
	const text = "a:g(3:f(1|@4)|{2})"
	first := loaded(t, text)
	second := loaded(t, text)
	is(t, "Mark", first.Mark(1, false), api.OK)
	is(t, "Alias", first.Alias(4, []int{8}), api.OK)
	is(t, "Locate", first.Locate([]api.Place{{Region: 3}}), api.OK)
	answers(t, first, 0, answer(86400, 0, 8))
	answers(t, second, 0, answer(86400, 0, 2))
	is(t, "Locate", second.Locate([]api.Place{{Prefix: toPrefix("0"), Region: 3}}), api.OK)
	answers(t, second, 0, answer(86400, 1, 1))
	is(t, "Mark", second.Mark(1, false), api.OK)
	answers(t, second, 0, answer(86400, 1))
	load(t, second, "a:{3}")
	answers(t, first, 0, answer(86400, 0, 8))
	refuses(t, steer.Start(), 0, 32, 0, api.ErrNone)
}
