package store

import (
	"bytes"
	"math"
	"math/rand"
	"reflect"
	"slices"
	"strings"
	"testing"

	"tollway/api"
	"tollway/batch"
	"tollway/codec"
	"tollway/engine"
	"tollway/event"
	"tollway/sample"
)

// same compares states; lists may be nil or empty.
func same(a, b api.State) bool {
	lists := slices.Equal(a.Cases, b.Cases) && slices.Equal(a.Seen, b.Seen) && slices.Equal(a.Rejects, b.Rejects) && slices.Equal(a.Parked, b.Parked)
	entries := slices.EqualFunc(a.Books.Ledger.Entries, b.Books.Ledger.Entries, func(x, y api.Entry) bool {
		return x.Key == y.Key && x.Time == y.Time && slices.Equal(x.Posts, y.Posts)
	})
	done := batch.Same(api.Result{Charges: a.Books.Done}, api.Result{Charges: b.Books.Done})
	return lists && entries && done && a.Closed == b.Closed && a.Count == b.Count && batch.Same(a.Result, b.Result) && reflect.DeepEqual(a.Config, b.Config)
}

func events(r *rand.Rand, n int) []api.Event {
	var l []api.Event
	for range n {
		l = append(l, sample.Event(r.Intn))
	}
	return l
}

func start(t *testing.T) api.State {
	t.Helper()
	s, e := engine.New(sample.Config())
	if e != api.OK {
		t.Fatal(int(e))
	}
	return s
}

// ints encodes numbers.
func ints(l ...int) []byte {
	var b []byte
	for _, n := range l {
		b = codec.PutInt(b, n)
	}
	return b
}

// mix encodes numbers and strings.
func mix(l ...any) []byte {
	var b []byte
	for _, x := range l {
		switch v := x.(type) {
		case int:
			b = codec.PutInt(b, v)
		case string:
			b = codec.PutText(b, v)
		}
	}
	return b
}

// P49.1
func TestSave(t *testing.T) {
	if b := Save(api.State{}); !bytes.Equal(b, codec.PutFrame(nil, 1, []byte{2, 0, 0, 0, 0, 0, 0, 0, 0})) {
		t.Error(b)
	}
	d := api.Detection{Device: "d", Seq: 1, Time: -2, Tag: "t", Plate: "p", Axles: 3, Score: 4}
	s := api.State{
		Closed:  -7,
		Count:   math.MaxInt,
		Seen:    []api.Seen{{D: d, Time: 99}},
		Rejects: []api.Reject{{D: d, Why: 5}, {}},
		Parked:  []api.Parked{{Kind: 1, Zone: "z", Plate: "p", Time: 2, Until: 3}},
		Books: api.Books{
			Ledger: api.Ledger{Entries: []api.Entry{{Key: "k", Time: 4, Posts: []api.Post{{Account: "a", Cents: 5}, {Account: "b", Cents: -5}}}, {}}},
			Done:   []api.Charge{{Key: "k", Vehicle: "v", System: "s", Class: 1, Time: 2, Lines: []api.Line{{Text: "base", Cents: 3}}, Cents: 4}},
		},
		Cases:  []api.Case{{ID: "i", Plate: "p", Key: "k", Begun: 1, Since: 2, Stage: 3, Owed: 4, Paid: 5, Paused: 6, Appeal: api.Appeal{State: 7, Ground: 8, Day: 9}}},
		Result: api.Result{Charges: []api.Charge{{Key: "x"}}},
		Config: sample.Config(),
	}
	want := codec.PutFrame(nil, 1, ints(1, -7, math.MaxInt, 1, 2, 1, 2, 1, 1))
	detection := mix("d", 1, -2, "t", "p", 3, 4)
	want = codec.PutFrame(want, 2, detection)
	want = codec.PutFrame(want, 3, append(slices.Clone(detection), ints(5)...))
	want = codec.PutFrame(want, 3, mix("", 0, 0, "", "", 0, 0, 0))
	want = codec.PutFrame(want, 4, mix(1, "z", "p", 2, 3))
	want = codec.PutFrame(want, 5, mix("k", 4, 2, "a", 5, "b", -5))
	want = codec.PutFrame(want, 5, mix("", 0, 0))
	want = codec.PutFrame(want, 6, mix("k", "v", "s", 1, 2, 1, "base", 3, 4))
	want = codec.PutFrame(want, 7, mix("i", "p", "k", 1, 2, 3, 4, 5, 6, 7, 8, 9))
	if b := Save(s); !bytes.Equal(b, want) {
		t.Error(b, want)
	}
}

// P49.2: the errors, in their order
func TestLoad(t *testing.T) {
	c := sample.Config()
	bad := sample.Config()
	bad.Agency = ""
	head := func(l ...int) []byte { return codec.PutFrame(nil, 1, ints(l...)) }
	empty := head(1, 0, 0, 0, 0, 0, 0, 0, 0)
	damaged := bytes.Clone(empty)
	damaged[3]++
	seen := func(device, plate string, extra ...byte) []byte {
		p := append(mix(device, 1, 5, "", plate, 0, 900), extra...)
		return codec.PutFrame(head(1, 0, 0, 1, 0, 0, 0, 0, 0), 2, p)
	}
	last := sample.Config()
	last.Tariffs[0].Valid.To = api.MaxTime
	end := codec.PutFrame(head(1, 0, 0, 1, 0, 0, 0, 0, 0), 2, mix("copen", 1, api.MaxDay*86400+5, "", "AB12", 0, 900))
	for i, x := range []struct {
		c api.Config
		b []byte
		e api.Errno
	}{
		{c, empty, api.OK}, {bad, nil, api.ErrName}, {c, nil, api.ErrShort}, {c, append(bytes.Clone(empty), 0), api.ErrForm}, {c, empty[:len(empty)-1], api.ErrShort}, {c, damaged, api.ErrSum}, {c, codec.PutFrame(nil, 2, ints(1, 0, 0, 0, 0, 0, 0, 0, 0)), api.ErrForm}, {c, head(2, 0, 0, 0, 0, 0, 0, 0, 0), api.ErrVersion}, {c, head(2), api.ErrVersion}, {c, head(1, 0, 0, 0, 0, 0, 0, 0), api.ErrShort}, {c, head(1, 0, 0, 0, 0, 0, 0, 0, 0, 0), api.ErrForm}, {c, head(), api.ErrShort}, {c, codec.PutFrame(nil, 1, []byte{128, 0}), api.ErrForm},
		{c, head(1, 0, 0, -1, 0, 0, 0, 0), api.ErrForm}, {c, head(1, -5, -5, 0, 0, 0, 0, 0, -1), api.ErrForm}, {c, head(1, -5, math.MinInt, 0, 0, 0, 0, 0, 0), api.OK}, {c, head(1, 0, 0, 1, 0, 0, 0, 0, 0), api.ErrShort}, {c, head(1, 0, 0, math.MaxInt, 0, 0, 0, 0, 0), api.ErrShort}, {c, append(head(1, 0, 0, 0, 1, 0, 0, 0, 0), seen("copen", "AB12")[len(empty):]...), api.ErrForm},
		{c, seen("copen", "AB12"), api.OK}, {c, seen("copen", "AB12", 0), api.ErrForm}, {c, seen("x", "AB12"), api.ErrDevice}, {c, seen("copen", "ab12"), api.ErrDevice}, {c, append(seen("x", "AB12"), 5), api.ErrForm}, {last, end, api.ErrTime},
		{c, codec.PutFrame(head(1, 0, 0, 0, 0, 0, 1, 0, 0), 5, mix("k", 5, 2, "a", 5, "b")), api.ErrShort}, {c, codec.PutFrame(head(1, 0, 0, 0, 0, 0, 1, 0, 0), 5, mix("k", 5, -1)), api.ErrForm}, {c, codec.PutFrame(head(1, 0, 0, 0, 0, 0, 1, 0, 0), 5, mix("k", 5, math.MaxInt)), api.ErrShort}, {c, codec.PutFrame(head(1, 0, 0, 0, 0, 0, 0, 1, 0), 6, mix("k", "v", "s", 1, 2, -1, 5)), api.ErrForm}, {c, codec.PutFrame(head(1, 0, 0, 0, 0, 0, 0, 1, 0), 6, mix("k", "v", "s", 1, 2, 0, 5)), api.OK}, {c, codec.PutFrame(head(1, 0, 0, 0, 0, 0, 0, 1, 0), 6, mix("k", -1)), api.ErrForm}, {c, codec.PutFrame(head(1, 0, 0, 0, 0, 0, 0, 1, 0), 6, mix("k", api.MaxText+1)), api.ErrLong}, {c, codec.PutFrame(head(1, 0, 0, 0, 0, 0, 0, 0, 1), 7, mix("i", "p", "k", 1, 2, 3, 4, 5, 6, 7, 8)), api.ErrShort}, {c, codec.PutFrame(head(1, 0, 0, 0, 0, 0, 0, 0, 1), 7, mix("i", "p", "k", 1, 2, 3, 4, 5, 6, 7, 8, 9)), api.OK}, {c, codec.PutFrame(head(1, 0, 0, 0, 0, 1, 0, 0, 0), 4, mix(9, "z", "p", -2, 3)), api.OK},
	} {
		s, e := Load(x.c, x.b)
		if e != x.e || e != api.OK && !reflect.DeepEqual(s, api.State{}) {
			t.Error(i, int(e))
		}
		if e == api.OK && (!bytes.Equal(Save(s), x.b) || !reflect.DeepEqual(s.Config, x.c)) {
			t.Error(i, "not the snapshot of the state")
		}
		if s, e := Recover(x.c, x.b, nil); e != x.e || e != api.OK && !reflect.DeepEqual(s, api.State{}) {
			t.Error("Recover", i, int(e))
		}
	}
}

// P49.3
func TestAppend(t *testing.T) {
	e := api.Event{Kind: api.ILate, Day: 3}
	if b, why := Append([]byte{9}, e); !bytes.Equal(b, codec.PutFrame([]byte{9}, 8, []byte{10, 6})) || why != api.OK {
		t.Error(b, int(why))
	}
	if b, why := Append([]byte{9}, api.Event{}); len(b) != 0 || why != api.ErrArg {
		t.Error(b, int(why))
	}
	room := make([]byte, 1, 99)
	Append(room, e)
	if room[:2][1] != 0 {
		t.Error("the memory behind the journal is changed")
	}
}

func journal(t *testing.T, es []api.Event) []byte {
	t.Helper()
	var b []byte
	for _, e := range es {
		var why api.Errno
		if b, why = Append(b, e); why != api.OK {
			t.Fatal(int(why))
		}
	}
	return b
}

// P49.4
func TestReplay(t *testing.T) {
	c := sample.Config()
	one := sample.Detect("topen", 1, 50, sample.Tag(1), 0)
	good := journal(t, []api.Event{one, {Kind: api.IClose, Day: 0}, {Kind: api.IClose, Day: 1}})
	p, _ := event.Put(nil, one)
	for i, x := range []struct {
		b     []byte
		n     int
		count int
	}{
		{nil, 0, 0}, {good, 3, 2}, {append(bytes.Clone(good), 8), 3, 2}, {append(bytes.Clone(good), codec.PutFrame(nil, 7, p)...), 3, 2}, {append(codec.PutFrame(nil, 7, p), good...), 0, 0}, {append(codec.PutFrame(nil, 8, append(bytes.Clone(p), 0)), good...), 0, 0}, {append(codec.PutFrame(nil, 8, p[:len(p)-1]), good...), 0, 0}, {append(codec.PutFrame(nil, 8, nil), good...), 0, 0}, {append(codec.PutFrame(nil, 8, []byte{12}), good...), 0, 0}, {good[1:], 0, 0},
	} {
		s, n, e := Replay(c, x.b)
		if n != x.n || s.Count != x.count || e != api.OK {
			t.Error(i, n, s.Count, int(e))
		}
		r, e := Recover(c, Save(start(t)), x.b)
		if !same(r, s) || e != api.OK {
			t.Error("Recover", i, int(e))
		}
	}
	c.Agency = ""
	if s, n, e := Replay(c, good); !reflect.DeepEqual(s, api.State{}) || n != 0 || e != api.ErrName {
		t.Error(n, int(e))
	}
}

// P49.6 to P49.8
func TestRestart(t *testing.T) {
	r := rand.New(rand.NewSource(1))
	for range 12 {
		es := events(r, 70)
		s, _ := engine.All(start(t), es)
		back, e := Load(s.Config, Save(s))
		if e != api.OK || !same(back, s) {
			t.Fatal("not the same state", int(e))
		}
		more := events(r, 20)
		a, n := engine.All(s, more)
		b, m := engine.All(back, more)
		if n != m || !same(a, b) {
			t.Fatal("it does not continue in the same way")
		}
		if x, e := Recover(s.Config, Save(s), journal(t, more)); e != api.OK || !same(x, a) {
			t.Fatal("Recover", int(e))
		}
		j := journal(t, es)
		for range 5 {
			cut := r.Intn(len(j) + 1)
			whole := 0
			at := 0
			for _, e := range es {
				p, _ := event.Put(nil, e)
				if at += len(codec.PutFrame(nil, 8, p)); at > cut {
					break
				}
				whole++
			}
			want, _ := engine.All(start(t), es[:whole])
			if x, n, e := Replay(s.Config, j[:cut]); n != whole || e != api.OK || !same(x, want) {
				t.Fatal("cut", cut, n, whole)
			}
		}
		b2 := Save(s)
		b2[r.Intn(len(b2))] ^= byte(1 + r.Intn(255))
		if x, e := Load(s.Config, b2); e == api.OK && !bytes.Equal(Save(x), b2) {
			t.Fatal("another snapshot is accepted")
		}
	}
}

// P49.6: strings that are very long cannot be loaded again, but do no harm.
func TestLong(t *testing.T) {
	s := start(t)
	s.Cases = []api.Case{{ID: strings.Repeat("x", api.MaxText)}}
	if x, e := Load(s.Config, Save(s)); e != api.ErrLong || !reflect.DeepEqual(x, api.State{}) {
		t.Error(int(e))
	}
}
