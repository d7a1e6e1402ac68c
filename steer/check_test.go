package steer_test

import (
	"math/rand"
	"strings"
	"testing"

	"steer/api"
	"steer/steer"
)

// within lays n times to live around a text.
func within(n int, text string) string {
	return strings.Repeat("t(1,", n) + text + strings.Repeat(")", n)
}

const sixteen = "0,1,2,3,4,5,6,7,8,9,10,11,12,13,14,15"

type checked struct {
	text  string
	errno api.Errno
	at    int
}

func sameCheck(t *testing.T, l []checked) {
	t.Helper()
	for _, k := range l {
		errno, at := steer.Check(k.text)
		if errno != k.errno || at != k.at {
			t.Errorf("Check(%.100q) = %d, %d, want %d, %d", k.text, errno, at, k.errno, k.at)
		}
	}
}

func TestCheckRight(t *testing.T) { // P5
	sameCheck(t, []checked{
		{"a:{1,2}", api.OK, 0}, {"a:{1,2};b:m(10:=a,1:{3}|w(4*1|@0))", api.OK, 0}, {" a : t ( 30 , f ( 7 | @ 3 ) ) ", api.OK, 0},
		{"a:{1,2};b:t(30,m(10:=a,1:w(3*1,4*2,5*1|{0})|g(7:f(8,9|@2)|{6})))", api.OK, 0},
		{"z:@0;a:=z;m:=a;b:=z", api.OK, 0},
	})
}

func TestCheckDeep(t *testing.T) { // P5
	sameCheck(t, []checked{
		{"a:" + within(11, "@1"), api.OK, 0}, {"a:" + within(12, "@1"), api.ErrDeep, 50}, {"a:" + within(13, "@1"), api.ErrDeep, 50}, {"a:" + within(399, "@1"), api.ErrDeep, 50},
		{"a:" + within(12, "@16"), api.ErrDeep, 50}, {"a:" + within(12, "=z"), api.ErrDeep, 50}, {"a:" + within(12, " {64}"), api.ErrDeep, 51},
		{"a:" + within(11, "{1}") + ";b:" + within(11, "=a"), api.OK, 0}, {"a:@1;b:" + within(12, "=a"), api.ErrDeep, 55},
		{"a:" + within(11, "f(1|@1)"), api.ErrDeep, 2 + 44 + 4}, {"a:" + within(11, "w(1*1|@1)"), api.ErrDeep, 2 + 44 + 6}, {"a:" + within(11, "m(0:@1|@1)"), api.ErrDeep, 2 + 44 + 4}, {"a:" + within(11, "g(0:@1|@1)"), api.ErrDeep, 2 + 44 + 4},
		{"a:" + within(11, "f(64|@1)"), api.ErrNumber, 2 + 44 + 2},
	})
}

func TestCheckMany(t *testing.T) { // P5
	weights := strings.ReplaceAll(sixteen, ",", "*1,") + "*1"
	arms := strings.ReplaceAll(sixteen, ",", ":@0,") + ":@0"
	bits := "0:@0,00:@0,01:@0,1:@0,10:@0,11:@0,000:@0,001:@0,010:@0,011:@0,100:@0,101:@0,110:@0,111:@0,0000:@0,0001:@0"
	sameCheck(t, []checked{
		{"a:{" + sixteen + "}", api.OK, 0}, {"a:{" + sixteen + ",16}", api.ErrMany, 41}, {"a:{" + sixteen + ", 16,17}", api.ErrMany, 42},
		{"a:{" + sixteen + ",64}", api.ErrMany, 41}, {"a:{" + sixteen + ",0}", api.ErrMany, 41},
		{"a:f(" + sixteen + "|@0)", api.OK, 0}, {"a:f(" + sixteen + ",16|@0)", api.ErrMany, 42},
		{"a:w(" + weights + "|@0)", api.OK, 0}, {"a:w(" + weights + ",16*0|@0)", api.ErrMany, 5 + len(weights)},
		{"a:g(" + arms + "|@0)", api.OK, 0}, {"a:g(" + arms + ",16:@99|@0)", api.ErrMany, 5 + len(arms)},
		{"a:m(" + bits + "|@0)", api.OK, 0}, {"a:m(" + bits + ",0010:@0|@0)", api.ErrMany, 5 + len(bits)},
		{"a:f(" + sixteen + "|{" + sixteen + "})", api.OK, 0},
		{"a:{" + strings.Replace(sixteen, "15", "64", 1) + ",16}", api.ErrNumber, 38},
	})
}

func TestCheckName(t *testing.T) { // P5
	sameCheck(t, []checked{
		{"a:{1};a:{2}", api.ErrName, 6}, {"a:{1}; a:{2}", api.ErrName, 7}, {"a:{1};b:{1};a:{2};b:{2}", api.ErrName, 12},
		{"a:=a", api.ErrName, 3}, {"a:= a", api.ErrName, 4}, {"a:=b;b:@1", api.ErrName, 3}, {"a:@1;b:=c", api.ErrName, 8}, {"a:@1;b:t(1,=b)", api.ErrName, 12}, {"a:@1;b:=a;c:=b;d:=a", api.OK, 0},
		{"a:=a;a:@1", api.ErrName, 3}, {"a:@1;a:=a", api.ErrName, 5},
		{"a:m(0:=z|@0)", api.ErrName, 7}, {"a:w(1*1|=z)", api.ErrName, 9},
		{"a:@0;b:@0;c:@0;d:@0;e:@0;f:@0;g:@0;h:@0;i:@0;j:@0;k:@0;l:@0;m:@0;n:@0;o:@0;p:@0;q:@0;r:@0;s:@0;t:@0;u:@0;v:@0;w:@0;x:@0;y:@0;z:@0", api.OK, 0},
	})
}

func TestCheckNumber(t *testing.T) { // P5
	sameCheck(t, []checked{
		{"a:{0}", api.OK, 0}, {"a:{63}", api.OK, 0}, {"a:{64}", api.ErrNumber, 3}, {"a:{1, 999999999}", api.ErrNumber, 6},
		{"a:f(63|@0)", api.OK, 0}, {"a:f(64|@0)", api.ErrNumber, 4}, {"a:w(63*1|@0)", api.OK, 0}, {"a:w(64*1|@0)", api.ErrNumber, 4},
		{"a:w(1*0|{99})", api.ErrNumber, 6}, {"a:w(0*1|@0)", api.OK, 0}, {"a:w(1*1000|@0)", api.OK, 0}, {"a:w(1* 1001|@0)", api.ErrNumber, 7}, {"a:w(64*0|@0)", api.ErrNumber, 4},
		{"a:t(0,@0)", api.ErrNumber, 4}, {"a:t(1,@0)", api.OK, 0}, {"a:t(86400,@0)", api.OK, 0}, {"a:t( 86401,@0)", api.ErrNumber, 5},
		{"a:g(0:@0|@0)", api.OK, 0}, {"a:g(99:@0|@0)", api.OK, 0}, {"a:g(100:@0|@0)", api.ErrNumber, 4},
		{"a:@0", api.OK, 0}, {"a:@15", api.OK, 0}, {"a:@16", api.ErrNumber, 3}, {"a:@ 16", api.ErrNumber, 4},
		{"a:{64};a:=z", api.ErrNumber, 3}, {"a:{1};b:{64}", api.ErrNumber, 9}, {"a:g(1:{64}|@16)", api.ErrNumber, 7}, {"a:g(1:@0,100:@0|@16)", api.ErrNumber, 9},
	})
}

func TestCheckTwice(t *testing.T) { // P5
	ones := strings.Repeat("1", 32)
	sameCheck(t, []checked{
		{"a:{1,1}", api.ErrTwice, 5}, {"a:{1,2, 1}", api.ErrTwice, 8}, {"a:{0,0}", api.ErrTwice, 5}, {"a:{1,10,11}", api.OK, 0}, {"a:{64,64}", api.ErrNumber, 3}, {"a:{1,64,64}", api.ErrNumber, 5}, {"a:{1,1,64}", api.ErrTwice, 5},
		{"a:f(1,1|@0)", api.ErrTwice, 6}, {"a:f(1|f(1|{1}))", api.OK, 0},
		{"a:w(1*2,1*3|@0)", api.ErrTwice, 8}, {"a:w(1*2,2*2|@0)", api.OK, 0}, {"a:w(1*2,1*0|@0)", api.ErrTwice, 8},
		{"a:m(1:@0,1:@1|@2)", api.ErrTwice, 9}, {"a:m(1:@0,10:@1,01:@1,0:@1,00:@2|@2)", api.OK, 0}, {"a:m(0:@0,00:@0,000:@0,00:@0|@2)", api.ErrTwice, 22}, {"a:m(" + ones + ":@0," + ones + ":@0|@0)", api.ErrTwice, 40}, {"a:m(" + ones + ":@0," + ones[1:] + ":@0|@0)", api.OK, 0}, {"a:m(1:m(1:@0|@0)|@0)", api.OK, 0},
		{"a:g(7:@0,7:@1|@2)", api.ErrTwice, 9}, {"a:g(7:@0,8:@0|@2)", api.OK, 0}, {"a:g(7:g(7:@0|@0)|@2)", api.OK, 0}, {"a:g(1:@16,1:@0|@0)", api.ErrNumber, 7},
		{"a:{1};b:{1}", api.OK, 0},
	})
}

func TestCheckDrawn(t *testing.T) { // P5, P6
	r := rand.New(rand.NewSource(4))
	told := [api.ErrNone + 1]int{}
	for i := range 20000 {
		d := newDraft(r, []int{0, 5, 20, 60}[i%4], 100+r.Intn(500))
		text := d.text.String()
		want := d.told()
		if len(text) > api.MaxText {
			want = fault{api.ErrLong, 0}
		}
		told[want.errno]++
		errno, at := steer.Check(text)
		if errno != want.errno || at != want.at {
			t.Fatalf("Check(%q) = %d, %d, want %d, %d", text, errno, at, want.errno, want.at)
		}
		sameSize(t, d, want.errno)
	}
	for errno := api.ErrDeep; errno <= api.ErrTwice; errno++ {
		if told[errno] < 5 {
			t.Errorf("only %d drawn texts have the error %d", told[errno], errno)
		}
	}
	if told[api.OK] < 1000 {
		t.Errorf("only %d drawn texts are right", told[api.OK])
	}
}
