package recon

import (
	"math/rand"
	"reflect"
	"slices"
	"strconv"
	"testing"

	"tollway/agency"
	"tollway/api"
	"tollway/exchange"
	"tollway/fresh"
)

func rec(kind int, key string, cents int) api.Record {
	return api.Record{Kind: kind, Key: key, Time: 5, Cents: cents}
}

// pair returns the state of the agency ann (with bob), and that of bob (with ann).
func pair() (api.Partner, api.Partner) {
	a, _ := exchange.New("bob")
	b, _ := exchange.New("ann")
	return a, b
}

func send(p api.Partner, from string, l ...api.Record) api.Partner {
	r, _, e := exchange.Send(p, from, l)
	if e != api.OK {
		panic(int(e))
	}
	return r
}

// P44.1, P44.3
func TestDiffer(t *testing.T) {
	a := api.Partner{Ours: []api.Record{rec(1, "k", 500), rec(1, "same", 7), rec(1, "gone", 3), rec(4, "gone", 3), rec(1, "only", 9)}}
	b := api.Partner{Theirs: []api.Record{rec(1, "same", 3), rec(1, "k", 300), rec(2, "same", 4), rec(1, "a", -1)}}
	want := []api.Differ{{Key: "a", Theirs: -1}, {Key: "k", Ours: 500, Theirs: 300}, {Key: "only", Ours: 9}}
	if l := Differ(a, b); !slices.Equal(l, want) {
		t.Error(l)
	}
	if l := Differ(b, a); len(l) != 0 {
		t.Error(l)
	}
	if Agree(a, b) || Agree(b, a) || !Agree(api.Partner{}, api.Partner{}) || !Agree(api.Partner{Ours: a.Ours}, api.Partner{Theirs: agency.Net(a.Ours)}) {
		t.Error("Agree")
	}
}

// P44.2
func TestCorrect(t *testing.T) {
	want := []api.Record{{Kind: api.RReject, Key: "k"}, {Kind: api.RCharge, Key: "k", Cents: 500}, {Kind: api.RReject, Key: "b"}}
	if l := Correct([]api.Differ{{Key: "k", Ours: 500, Theirs: 300}, {Key: "b", Theirs: 5}}); !slices.Equal(l, want) {
		t.Error(l)
	}
	if l := Correct(nil); len(l) != 0 {
		t.Error(l)
	}
}

// P44.4
func TestRound(t *testing.T) {
	a, b := pair()
	a = send(send(a, "ann", rec(1, "k", 500)), "ann", rec(1, "m", 7))
	b = send(b, "bob", rec(1, "x", 40))
	for i, x := range []struct {
		lost       []bool
		theirsOfB  int
		theirsOfA  int
		waitingOfA int
		waitingOfB int
	}{
		{nil, 2, 1, 0, 0}, {[]bool{true}, 0, 1, 2, 0}, {[]bool{false, true}, 1, 1, 1, 0}, {[]bool{true, true, true}, 0, 0, 2, 1}, {[]bool{false, false, true}, 2, 0, 0, 1}, {[]bool{false, false, false, true, true}, 2, 1, 0, 0},
	} {
		x1, y1, e := Round(a, b, x.lost)
		if e != api.OK || len(y1.Theirs) != x.theirsOfB || len(x1.Theirs) != x.theirsOfA || len(x1.Waiting) != x.waitingOfA || len(y1.Waiting) != x.waitingOfB {
			t.Error(i, x1, y1, int(e))
		}
		x2, y2, e := Round(x1, y1, nil)
		if e != api.OK || len(y2.Theirs) != 2 || len(x2.Theirs) != 1 || len(x2.Waiting)+len(y2.Waiting) != 0 || !Agree(x2, y2) {
			t.Error(i, x2, y2, int(e))
		}
	}
	if len(a.Waiting) != 2 || len(b.Theirs) != 0 {
		t.Error("changed")
	}
	// An error other than ErrSeq: both stay as they were, also if the first files were delivered.
	wrong := fresh.Partner(b)
	wrong.Waiting[0].From = "eve"
	if x, y, e := Round(a, wrong, nil); e != api.ErrAgency || !reflect.DeepEqual(x, a) || !reflect.DeepEqual(y, wrong) {
		t.Error(int(e))
	}
	if _, y, e := Round(a, wrong, []bool{false, false, true}); e != api.OK || len(y.Theirs) != 2 {
		t.Error("a lost file has no error", int(e))
	}
	// Numbers that do not fit are no error.
	ahead := a
	ahead.In = 77
	if x, y, e := Round(ahead, b, nil); e != api.OK || len(x.Theirs) != 0 || len(y.Waiting) != 1 || len(y.Theirs) != 2 {
		t.Error(x, y, int(e))
	}
}

// P44.5: the examples
func TestReconcile(t *testing.T) {
	a, b := pair()
	a = send(a, "ann", rec(1, "k", 500))
	x, y, n, e := Reconcile(a, b)
	if x.Out != a.Out || y.Out != b.Out {
		t.Error("a file without records is sent")
	}
	if e != api.OK || n != 0 || agency.Amount(y.Theirs, "k") != 500 || !Agree(x, y) || len(x.Waiting) != 0 {
		t.Error(x, y, n, int(e))
	}
	y.Theirs[0].Cents = 300
	y.Ours, x.Theirs = []api.Record{rec(1, "z", 9)}, nil
	before := [2]api.Partner{fresh.Partner(x), fresh.Partner(y)}
	x2, y2, n, e := Reconcile(x, y)
	if e != api.OK || n != 2 || agency.Amount(y2.Theirs, "k") != 500 || agency.Amount(x2.Theirs, "z") != 9 || !Agree(x2, y2) || agency.Amount(x2.Ours, "k") != 500 || len(x2.Waiting)+len(y2.Waiting) != 0 {
		t.Error(x2, y2, n, int(e))
	}
	if !reflect.DeepEqual(before, [2]api.Partner{x, y}) {
		t.Error("changed")
	}
	for i, z := range []struct {
		change func(x, y *api.Partner)
		e      api.Errno
	}{
		{func(x, y *api.Partner) { x.Name = "Bob" }, api.ErrName}, {func(x, y *api.Partner) { x.Out = 0 }, api.ErrSeq}, {func(x, y *api.Partner) { x.Out = 7 }, api.ErrSeq}, {func(x, y *api.Partner) { y.In = 7 }, api.ErrSeq}, {func(x, y *api.Partner) { y.Theirs = slices.Repeat([]api.Record{rec(4, "k", 0)}, api.MaxList) }, api.ErrLimit}, {func(x, y *api.Partner) { x.Waiting = []api.File{{}} }, api.ErrName}, {func(x, y *api.Partner) { x.Ours = slices.Repeat(x.Ours, api.MaxList) }, api.ErrLimit}, {func(x, y *api.Partner) { y.Ours = slices.Repeat(y.Ours, api.MaxList) }, api.ErrLimit},
	} {
		p, q := fresh.Partner(x), fresh.Partner(y)
		z.change(&p, &q)
		u, v, n, e := Reconcile(p, q)
		if e != z.e || n != 0 || !reflect.DeepEqual(u, p) || !reflect.DeepEqual(v, q) {
			t.Error(i, n, int(e))
		}
	}
}

// P44.6
func TestSettle(t *testing.T) {
	most := api.MaxMoney
	for i, x := range []struct {
		ours, theirs []api.Record
		n            int
		e            api.Errno
	}{
		{[]api.Record{rec(1, "k", 500), rec(1, "m", 7)}, []api.Record{rec(1, "k", 300)}, 207, api.OK}, {nil, []api.Record{rec(1, "k", 300)}, -300, api.OK}, {nil, nil, 0, api.OK}, {[]api.Record{rec(1, "k", most), rec(1, "k", 1)}, nil, 0, api.ErrMoney}, {[]api.Record{rec(1, "k", most), rec(1, "m", 1)}, nil, 0, api.ErrMoney}, {[]api.Record{rec(1, "k", most), rec(1, "m", 1), rec(4, "k", 1)}, nil, most, api.OK}, {nil, []api.Record{rec(1, "k", most), rec(1, "k", 1)}, 0, api.ErrMoney}, {nil, []api.Record{rec(1, "k", most), rec(1, "m", 1)}, 0, api.ErrMoney}, {[]api.Record{rec(1, "k", most)}, []api.Record{rec(1, "k", -1)}, 0, api.ErrMoney}, {[]api.Record{rec(1, "k", most)}, []api.Record{rec(1, "k", most)}, 0, api.OK},
	} {
		if n, e := Settle(api.Partner{Ours: x.ours, Theirs: x.theirs}); n != x.n || e != x.e {
			t.Error(i, n, int(e))
		}
	}
}

// P44.7 to P44.9
func TestAgree(t *testing.T) {
	r := rand.New(rand.NewSource(1))
	for range 300 {
		a, b := pair()
		key := func() string { return "k" + strconv.Itoa(r.Intn(4)) }
		for range r.Intn(10) {
			switch r.Intn(3) {
			case 0:
				a = send(a, "ann", rec(1, key(), r.Intn(100)), rec(4, key(), r.Intn(50)))
			case 1:
				b = send(b, "bob", rec(2, key(), r.Intn(100)-50), rec(3, key(), 0))
			default:
				lost := make([]bool, r.Intn(8))
				for i := range lost {
					lost[i] = r.Intn(2) == 0
				}
				var e api.Errno
				if a, b, e = Round(a, b, lost); e != api.OK {
					t.Fatal(int(e))
				}
			}
		}
		x, y, n, e := Reconcile(a, b)
		if e != api.OK || n != 0 || !Agree(x, y) || len(Differ(x, y)) != 0 {
			t.Fatal(x, y, n, int(e))
		}
		p, _ := Settle(x)
		q, _ := Settle(y)
		if p != -q {
			t.Fatal("not opposite", p, q)
		}
		// Claims or records of one side are changed.
		for _, l := range [][]api.Record{x.Ours, x.Theirs, y.Ours, y.Theirs} {
			if len(l) > 0 && r.Intn(2) == 0 {
				l[r.Intn(len(l))] = rec(1, key(), r.Intn(500))
			}
		}
		want := [2][]api.Record{agency.Net(x.Ours), agency.Net(y.Ours)}
		u, v, _, e := Reconcile(x, y)
		if e != api.OK || !Agree(u, v) {
			t.Fatal(u, v, int(e))
		}
		for i, claims := range [][]api.Record{u.Ours, v.Ours} {
			for _, d := range want[i] {
				if agency.Amount(claims, d.Key) != d.Cents {
					t.Fatal("a claim changes", d, claims)
				}
			}
		}
	}
}
