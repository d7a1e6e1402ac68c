package policy

import (
	"reflect"
	"testing"

	"steer/api"
)

func TestRead(t *testing.T) {
	p, errno, at := Read("a:@3;b:m( 10:=a,1:w(4*5|{6})|t(7,=a))")
	if errno != api.OK || at != 0 {
		t.Fatalf("Read = %d, %d", errno, at)
	}
	want := Policy{
		Exprs: []Expr{
			{Kind: Alias, At: 2, Number: Number{3, 3}, Inner: None},
			{Kind: Name, At: 13, Depth: 1, Number: Number{'a', 14}, Inner: 0},
			{Kind: Servers, At: 24, Depth: 2, Items: []Item{{At: 25, Number: 6, Arm: None}}, Inner: None},
			{Kind: Pool, At: 18, Depth: 1, Items: []Item{{At: 20, Number: 4, Weight: Number{5, 22}, Arm: None}}, Inner: 2},
			{Kind: Name, At: 33, Depth: 2, Number: Number{'a', 34}, Inner: 0},
			{Kind: TTL, At: 29, Depth: 1, Number: Number{7, 31}, Inner: 4},
			{Kind: Prefixes, At: 7, Items: []Item{
				{At: 10, Prefix: api.Prefix{Value: 0x80000000, Len: 2}, Arm: 1},
				{At: 16, Prefix: api.Prefix{Value: 0x80000000, Len: 1}, Arm: 3},
			}, Inner: 5},
		},
		Rules: []Rule{{Name: Number{'a', 0}, Expr: 0}, {Name: Number{'b', 5}, Expr: 6}},
	}
	if !reflect.DeepEqual(p, want) {
		t.Errorf("Read = %+v\nwant   %+v", p, want)
	}
	if p.Size() != 10 {
		t.Errorf("Size = %d", p.Size())
	}
}

func TestReadWrong(t *testing.T) {
	for _, text := range []string{"", "a:{64}", "a:{1", "a:=a"} {
		p, errno, _ := Read(text)
		if errno == api.OK || p.Exprs != nil || p.Rules != nil {
			t.Errorf("Read(%q) = %+v, %d", text, p, errno)
		}
	}
}
