package agency

import (
	"math"
	"math/rand"
	"reflect"
	"slices"
	"strconv"
	"strings"
	"testing"

	"tollway/api"
)

func rec(kind int, key string, time, cents int) api.Record {
	return api.Record{Kind: kind, Key: key, Time: time, Cents: cents}
}

func reject(key string, time, why int) api.Record {
	return api.Record{Kind: api.RReject, Key: key, Time: time, Why: why}
}

func example() api.File {
	return api.File{From: "a", To: "b", Seq: 1, Records: []api.Record{rec(api.RCharge, "k", 5, 120), reject("k", 6, 9)}}
}

const exampleText = "file a b 1\ncharge k 5 1.20\nreject k 6 9\nend 2 1.20\n"

// P42.1, P42.2
func TestCheck(t *testing.T) {
	most := api.MaxMoney
	for i, x := range []struct {
		change func(f *api.File)
		e      api.Errno
	}{
		{func(f *api.File) {}, api.OK}, {func(f *api.File) { f.From, f.To, f.Seq = "A", "A", 0 }, api.ErrName}, {func(f *api.File) { f.To, f.Seq = "B", 0 }, api.ErrName}, {func(f *api.File) { f.To, f.Seq = "a", 0 }, api.ErrAgency}, {func(f *api.File) { f.Seq, f.Records = 0, make([]api.Record, 1025) }, api.ErrSeq}, {func(f *api.File) { f.Seq = api.MaxNumber + 1 }, api.ErrSeq}, {func(f *api.File) { f.Seq = api.MaxNumber }, api.OK}, {func(f *api.File) { f.Records = make([]api.Record, 1025) }, api.ErrLimit}, {func(f *api.File) { f.Records = slices.Repeat(f.Records, 512) }, api.OK}, {func(f *api.File) { f.Records = nil }, api.OK},
		{func(f *api.File) { f.Records[0] = rec(0, "", -1, 0) }, api.ErrArg}, {func(f *api.File) { f.Records[0] = rec(5, "k", 5, 0) }, api.ErrArg}, {func(f *api.File) { f.Records[0] = rec(1, "", -1, most+1) }, api.ErrForm}, {func(f *api.File) { f.Records[0] = rec(1, "a b", 5, 5) }, api.ErrForm}, {func(f *api.File) { f.Records[0] = rec(1, strings.Repeat("é", 300), 5, 5) }, api.ErrForm}, {func(f *api.File) { f.Records[0] = rec(1, strings.Repeat("k", 257), -1, 5) }, api.ErrLong}, {func(f *api.File) { f.Records[0] = rec(1, strings.Repeat("k", 256), 5, 5) }, api.OK}, {func(f *api.File) { f.Records[0] = rec(1, "k", -1, most+1) }, api.ErrTime}, {func(f *api.File) { f.Records[1] = reject("k", api.MaxTime, -1) }, api.ErrTime}, {func(f *api.File) { f.Records[0].Time = api.MaxTime - 1 }, api.OK},
		{func(f *api.File) { f.Records[1].Cents = 1 }, api.ErrArg}, {func(f *api.File) { f.Records[1].Why = -1 }, api.ErrArg}, {func(f *api.File) { f.Records[1].Why = 100 }, api.ErrArg}, {func(f *api.File) { f.Records[1].Why = 99 }, api.OK}, {func(f *api.File) { f.Records[1].Why = 0 }, api.OK}, {func(f *api.File) { f.Records[0].Cents, f.Records[0].Why = most+1, 1 }, api.ErrMoney}, {func(f *api.File) { f.Records[0].Why = 1 }, api.ErrArg}, {func(f *api.File) { f.Records[0] = rec(4, "k", 5, -most) }, api.OK}, {func(f *api.File) { f.Records[0] = rec(2, "k", 5, math.MinInt) }, api.ErrMoney},
		{func(f *api.File) { f.Records = []api.Record{rec(1, "k", 5, most), rec(2, "k", 5, 1)} }, api.ErrMoney}, {func(f *api.File) { f.Records = []api.Record{rec(1, "k", 5, most), rec(4, "k", 5, most)} }, api.OK}, {func(f *api.File) {
			f.Records = []api.Record{rec(1, "k", 5, most), rec(2, "k", 5, 1), rec(1, "k", 5, -1)}
		}, api.OK},
	} {
		f := example()
		x.change(&f)
		if e := Check(f); e != x.e {
			t.Error(i, int(e))
		}
		if s, e := Print(f); e != x.e || e != api.OK && s != "" {
			t.Error("Print", i, int(e))
		}
	}
}

// P42.2, P42.3: the example
func TestPrint(t *testing.T) {
	if s, e := Print(example()); s != exampleText || e != api.OK {
		t.Error(s, int(e))
	}
	f := example()
	f.Records = []api.Record{rec(api.RCorrect, "!", 0, -5), rec(api.RPay, "~", api.MaxTime-1, api.MaxMoney)}
	if s, e := Print(f); s != "file a b 1\ncorrect ! 0 -0.05\npay ~ 68719476735 11258999068426.24\nend 2 -0.05\n" || e != api.OK {
		t.Error(s, int(e))
	}
	// 244 lines of 268 bytes, 24 bytes of the other lines, and one more line: together MaxText bytes, or one more.
	long := api.File{From: "a", To: "b", Seq: 1, Records: slices.Repeat([]api.Record{rec(api.RPay, strings.Repeat("k", 256), 5, 5)}, 244)}
	for n, want := range map[int]api.Errno{108: api.OK, 109: api.ErrLong} {
		f := long
		f.Records = append(long.Records[:244:244], rec(api.RPay, strings.Repeat("k", n), 5, 5))
		s, e := Print(f)
		if e != want || e == api.OK && len(s) != api.MaxText || e != api.OK && s != "" {
			t.Error(n, len(s), int(e))
		}
		if g, line, h := Parse(s); e == api.OK && (!reflect.DeepEqual(g, f) || line != 0 || h != api.OK) {
			t.Error(line, int(h))
		}
	}
}

// P42.3
func TestParse(t *testing.T) {
	head := "file a b 1\n"
	many := head + strings.Repeat("pay k 5 0.01\n", 1024)
	most := "11258999068426.24"
	for i, x := range []struct {
		s    string
		line int
		e    api.Errno
	}{
		{exampleText, 0, api.OK}, {head + "end 0 0.00\n", 0, api.OK}, {strings.Repeat("x", api.MaxText+1), 0, api.ErrLong}, {"", 1, api.ErrShort}, {head, 2, api.ErrShort}, {head + "end 1 0.00\n", 2, api.ErrSum}, {head + "end 0 0.01\n", 2, api.ErrSum}, {"file a a 1\n", 1, api.ErrAgency}, {head + "end 0 0.00", 2, api.ErrShort}, {head + " x", 2, api.ErrShort},
		{strings.Repeat("x", 513) + "\n", 1, api.ErrLong}, {"file  a b 1\n", 1, api.ErrForm}, {"\n", 1, api.ErrForm}, {head + "\n", 2, api.ErrForm}, {"file a b\n", 1, api.ErrForm}, {"file a b 1 2\n", 1, api.ErrForm}, {"File a b 1\n", 1, api.ErrForm}, {"end 0 0.00\n", 1, api.ErrForm}, {"charge k 5 1.20\n", 1, api.ErrForm}, {head + head, 2, api.ErrForm}, {head + "end 0 0.00\n" + head, 3, api.ErrForm}, {head + "end 0 0.00\nend 0 0.00\n", 3, api.ErrForm}, {head + "end 0 0.00\nx", 3, api.ErrShort}, {head + "end 0 0.00\na  b\n", 3, api.ErrForm}, {head + "end 0 0.00\n\n", 3, api.ErrForm}, {head + "bill k 5 1.20\n", 2, api.ErrForm}, {head + "charge k 5\n", 2, api.ErrForm}, {head + "charge k 5 1.20 0\n", 2, api.ErrForm}, {head + "end 0\n", 2, api.ErrForm}, {head + "end 0 0.00 x\n", 2, api.ErrForm}, {exampleText + "\n", 5, api.ErrForm},
		{"file A b 01\n", 1, api.ErrForm}, {"file A b 1\n", 1, api.ErrName}, {"file a B 0\n", 1, api.ErrName}, {"file a b 0\n", 1, api.ErrSeq}, {"file a b -1\n", 1, api.ErrSeq}, {"file a b 99999999999999999999\n", 1, api.ErrSeq}, {"file a b 2147483649\n", 1, api.ErrSeq}, {"file a b x\n", 1, api.ErrForm},
		{head + "charge k 05 1.2\n", 2, api.ErrForm}, {head + "charge k 5 1.2\n", 2, api.ErrForm}, {head + "charge k -5 99999999999999.00\n", 2, api.ErrMoney}, {head + "charge k -5 1.20\n", 2, api.ErrTime}, {head + "charge k 68719476736 1.20\n", 2, api.ErrTime}, {head + "charge k 99999999999999999999999 1.20\n", 2, api.ErrTime}, {head + "charge " + strings.Repeat("k", 257) + " -5 1.20\n", 2, api.ErrLong}, {head + "reject k 6 1.20\n", 2, api.ErrForm}, {head + "reject k 6 100\n", 2, api.ErrArg}, {head + "reject k 6 -1\n", 2, api.ErrArg}, {head + "reject k -6 100\n", 2, api.ErrTime}, {head + "reject k 6 99999999999999999999999\n", 2, api.ErrArg}, {head + "reject k 6 01\n", 2, api.ErrForm}, {head + "pay k 6 9\n", 2, api.ErrForm},
		{many + "end 1024 0.00\n", 0, api.OK}, {many + "pay k 5 0.01\n", 1026, api.ErrLimit}, {many + "pay k -5 0.01\n", 1026, api.ErrLimit}, {many + "pay k -5 0.1\n", 1026, api.ErrForm}, {many + "end 1024 0.01\n", 1026, api.ErrSum}, {head + "charge k 5 " + most + "\ncharge k 5 0.01\nend 9 0.00\n", 4, api.ErrMoney}, {head + "charge k 5 " + most + "\ncharge k 5 0.01\nend 09 0.00\n", 4, api.ErrForm}, {head + "end 0 99999999999999.00\n", 2, api.ErrMoney}, {head + "end -1 0.00\n", 2, api.ErrSum}, {head + "end 99999999999999999999 0.00\n", 2, api.ErrSum}, {head + "end x 99999999999999.00\n", 2, api.ErrForm}, {head + "end 0 0\n", 2, api.ErrForm},
	} {
		f, line, e := Parse(x.s)
		if line != x.line || e != x.e || e != api.OK && !reflect.DeepEqual(f, api.File{}) {
			t.Error(i, line, int(e), "want", x.line, int(x.e))
		}
		if e == api.OK {
			if s, e := Print(f); s != x.s || e != api.OK {
				t.Error(i, s, int(e))
			}
		}
	}
}

// P42.4
func TestTotal(t *testing.T) {
	most := api.MaxMoney
	for i, x := range []struct {
		l []api.Record
		n int
		e api.Errno
	}{
		{nil, 0, api.OK}, {[]api.Record{rec(1, "a", 1, 5), rec(2, "b", 1, -7), rec(4, "c", 1, 100), rec(3, "d", 1, 1000), rec(9, "e", 1, 9)}, -2, api.OK}, {[]api.Record{rec(1, "a", 1, most+1), rec(1, "a", 1, -5)}, 0, api.ErrMoney}, {[]api.Record{rec(4, "a", 1, most+1)}, 0, api.OK}, {[]api.Record{rec(1, "a", 1, most), rec(2, "a", 1, 1)}, 0, api.ErrMoney},
	} {
		if n, e := Total(api.File{Records: x.l}); n != x.n || e != x.e {
			t.Error(i, n, int(e))
		}
	}
}

// P42.5
func TestNet(t *testing.T) {
	l := []api.Record{rec(1, "k", 5, 120), reject("k", 6, 9), rec(1, "b", 1, 7)}
	if n := Amount(l, "k"); n != 0 {
		t.Error(n)
	}
	l = append(l, rec(1, "k", 7, 300), rec(4, "k", 8, 100), rec(2, "b", 3, -10), rec(9, "b", 2, 1000), rec(0, "z", 4, 5))
	if n := Amount(l, "k"); n != 200 {
		t.Error(n)
	}
	if n := Amount(l, "x"); n != 0 {
		t.Error(n)
	}
	want := []api.Record{rec(1, "b", 2, -3), rec(1, "k", 8, 200), rec(1, "z", 4, 0)}
	if n := Net(l); !slices.Equal(n, want) || !slices.Equal(Net(n), want) {
		t.Error(n)
	}
	if n := Net(nil); len(n) != 0 {
		t.Error(n)
	}
	if n := Net([]api.Record{reject("k", 6, 9)}); !slices.Equal(n, []api.Record{rec(1, "k", 6, 0)}) {
		t.Error(n)
	}
}

// P42.6 to P42.8
func TestThereAndBack(t *testing.T) {
	r := rand.New(rand.NewSource(1))
	for range 400 {
		f := api.File{From: "north", To: "south", Seq: 1 + r.Intn(api.MaxNumber)}
		for range r.Intn(6) {
			x := rec(1+r.Intn(4), "k"+strconv.Itoa(r.Intn(3)), r.Intn(api.MaxTime), r.Intn(2000)-1000)
			if x.Kind == api.RReject {
				x.Cents, x.Why = 0, r.Intn(100)
			}
			f.Records = append(f.Records, x)
		}
		s, e := Print(f)
		g, line, h := Parse(s)
		if e != api.OK || h != api.OK || line != 0 || !reflect.DeepEqual(f, g) {
			t.Fatal(f, s, g, line)
		}
		for i := range s {
			if g, _, e := Parse(s[:i]); e != api.ErrShort || !reflect.DeepEqual(g, api.File{}) {
				t.Fatal(s[:i], int(e))
			}
		}
		b := []byte(s)
		b[r.Intn(len(b))] = "0 \nk.1"[r.Intn(6)]
		if g, _, e := Parse(string(b)); e == api.OK {
			if again, _ := Print(g); again != string(b) {
				t.Fatal("another text", string(b))
			}
		}
		net := Net(f.Records)
		for i, x := range net {
			if i > 0 && net[i-1].Key >= x.Key || x.Cents != Amount(f.Records, x.Key) || x.Kind != api.RCharge || x.Why != 0 {
				t.Fatal(net)
			}
			var own []api.Record
			for _, y := range f.Records {
				if y.Key == x.Key {
					own = append(own, y)
				}
			}
			if Amount(own, x.Key) != x.Cents || own[len(own)-1].Time != x.Time {
				t.Fatal(x, own)
			}
		}
	}
}
