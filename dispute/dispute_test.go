package dispute

import (
	"math"
	"math/rand"
	"reflect"
	"slices"
	"strconv"
	"strings"
	"testing"

	"tollway/api"
)

func d(key string, time, cents, state int, proofs ...string) api.Dispute {
	return api.Dispute{Key: key, Time: time, Cents: cents, State: state, Proofs: proofs}
}

func names(n int) []string {
	var l []string
	for i := range n {
		l = append(l, "p"+strconv.Itoa(i))
	}
	return l
}

// bad has strings that are no references.
var bad = [...]string{"", " ", "a b", "a\n", "\x7f", "é", "a\x00", "0123456789012345678901234567890123456789012345678901234567890123x"}

// P36.1
func TestCheck(t *testing.T) {
	var many []api.Dispute
	for i := range api.MaxList + 1 {
		many = append(many, d("k"+strconv.Itoa(i), 0, 1, 1))
	}
	long := strings.Repeat("k", 64)
	for i, x := range []struct {
		l []api.Dispute
		e api.Errno
	}{
		{nil, api.OK}, {many[:api.MaxList], api.OK}, {many, api.ErrLimit}, {[]api.Dispute{d(long, api.MaxTime-1, api.MaxMoney, 4, long)}, api.OK}, {[]api.Dispute{d("k", 0, 1, 1), d("k", -1, 0, 0)}, api.ErrExists}, {[]api.Dispute{d("k", -1, 0, 0)}, api.ErrTime}, {[]api.Dispute{d("k", api.MaxTime, 1, 1)}, api.ErrTime}, {[]api.Dispute{d("k", 0, 0, 0)}, api.ErrMoney}, {[]api.Dispute{d("k", 0, api.MaxMoney+1, 1)}, api.ErrMoney}, {[]api.Dispute{d("k", 0, 1, 0, names(17)...)}, api.ErrArg}, {[]api.Dispute{d("k", 0, 1, 5)}, api.ErrArg}, {[]api.Dispute{d("k", 0, 1, 3, names(16)...)}, api.OK}, {[]api.Dispute{d("k", 0, 1, 3, append(names(16), "")...)}, api.ErrLimit}, {[]api.Dispute{d("k", 0, 1, 3, "a", "a", "")}, api.ErrExists}, {[]api.Dispute{d("k", 0, 1, 3, "a", "", "a")}, api.ErrForm}, {[]api.Dispute{d("k", 0, 1, 3, ""), d("k", 0, 1, 3)}, api.ErrForm},
	} {
		if e := Check(x.l); e != x.e {
			t.Error(i, int(e))
		}
	}
	for _, s := range bad {
		if e := Check([]api.Dispute{d(s, -1, 1, 1)}); e != api.ErrForm {
			t.Error(s, int(e))
		}
		if e := Check([]api.Dispute{d("k", 1, 1, 1, s)}); e != api.ErrForm {
			t.Error(s, int(e))
		}
		if l, e := Open(nil, s, 0, -1); len(l) != 0 || e != api.ErrForm {
			t.Error(s, int(e))
		}
		if _, e := Prove([]api.Dispute{d("k", 1, 1, 1)}, "k", s, 5); e != api.ErrForm {
			t.Error(s, int(e))
		}
	}
}

// P36.2
func TestOpen(t *testing.T) {
	l := []api.Dispute{d("k", 5, 1, 3, "a")}
	r, e := Open(l, "x", 500, 1000)
	if e != api.OK || !reflect.DeepEqual(r, []api.Dispute{l[0], d("x", 1000, 500, 1)}) {
		t.Error(r, int(e))
	}
	r[0].Proofs[0] = "b"
	if l[0].Proofs[0] != "a" {
		t.Error("shared memory")
	}
	full := slices.Repeat(l, api.MaxList)
	for i, x := range []struct {
		l        []api.Dispute
		key      string
		cents, t int
		e        api.Errno
	}{{l, "x", 0, -1, api.ErrMoney}, {l, "x", api.MaxMoney + 1, 5, api.ErrMoney}, {l, "k", 1, -1, api.ErrTime}, {l, "k", 1, api.MaxTime, api.ErrTime}, {full, "k", 1, 5, api.ErrExists}, {full, "x", 1, 5, api.ErrLimit}} {
		if r, e := Open(x.l, x.key, x.cents, x.t); !reflect.DeepEqual(r, x.l) || e != x.e {
			t.Error(i, int(e))
		}
	}
}

// P36.3
func TestProve(t *testing.T) {
	l := []api.Dispute{d("x", 1000, 500, 1, "a"), d("done", 1000, 500, 2), d("full", 1000, 5, 1, names(16)...), d("old", math.MinInt, 5, 1), d("new", math.MaxInt, 5, 1), d("x", 0, 1, 2)}
	r, e := Prove(l, "x", "p1", 2593000)
	if e != api.OK || !slices.Equal(r[0].Proofs, []string{"a", "p1"}) || !reflect.DeepEqual(r[1:], l[1:]) || len(l[0].Proofs) != 1 {
		t.Error(r, int(e))
	}
	for i, x := range []struct {
		key, id string
		t       int
		e       api.Errno
	}{
		{"y", "", -1, api.ErrNone}, {"done", "", -1, api.ErrState}, {"x", "", -1, api.ErrTime}, {"x", "", api.MaxTime, api.ErrTime}, {"x", "", 999, api.ErrTime}, {"x", "", 2593001, api.ErrLate}, {"x", "", 2593000, api.ErrForm}, {"x", "a", 1000, api.ErrExists}, {"full", "p3", 1000, api.ErrExists}, {"full", "q", 1000, api.ErrLimit}, {"old", "q", 0, api.ErrLate}, {"new", "q", 1000, api.ErrTime},
	} {
		if r, e := Prove(l, x.key, x.id, x.t); !reflect.DeepEqual(r, l) || e != x.e {
			t.Error(i, int(e))
		}
	}
	room := make([]string, 1, 5)
	if _, e := Prove([]api.Dispute{d("x", 1, 1, 1, room...)}, "x", "p", 5); e != api.OK || room[:2][1] != "" {
		t.Error("the memory behind the proofs is changed")
	}
}

// P36.4
func TestDecide(t *testing.T) {
	l := []api.Dispute{d("x", 1000, 500, 1, "a"), d("done", 1000, 500, 2), d("gone", 1000, 500, 4), d("old", math.MinInt, 5, 1)}
	r, n, e := Decide(l, "x", true, 5185000)
	if e != api.OK || n != 500 || r[0].State != 2 || !reflect.DeepEqual(r[1:], l[1:]) || l[0].State != 1 {
		t.Error(r, n, int(e))
	}
	if r, n, e := Decide(r, "x", true, 5185000); n != 0 || e != api.ErrState || r[0].State != 2 {
		t.Error(r, n, int(e))
	}
	if r, n, e := Decide(l, "x", false, 1000); n != 0 || e != api.OK || r[0].State != 3 {
		t.Error(r, n, int(e))
	}
	for i, x := range []struct {
		key string
		t   int
		e   api.Errno
	}{{"y", -1, api.ErrNone}, {"done", -1, api.ErrState}, {"gone", -1, api.ErrState}, {"x", -1, api.ErrTime}, {"x", 999, api.ErrTime}, {"x", api.MaxTime, api.ErrTime}, {"x", 5185001, api.ErrLate}, {"old", 0, api.ErrLate}} {
		for _, accept := range []bool{false, true} {
			if r, n, e := Decide(l, x.key, accept, x.t); !reflect.DeepEqual(r, l) || n != 0 || e != x.e {
				t.Error(i, n, int(e))
			}
		}
	}
	for key, want := range map[string]api.Errno{"x": api.OK, "y": api.ErrNone, "done": api.ErrState, "gone": api.ErrState} {
		r, e := Withdraw(l, key)
		if e != want || e != api.OK && !reflect.DeepEqual(r, l) || e == api.OK && (r[0].State != 4 || !reflect.DeepEqual(r[1:], l[1:])) || l[0].State != 1 {
			t.Error(key, r, int(e))
		}
	}
}

// P36.5
func TestExpire(t *testing.T) {
	l := []api.Dispute{d("x", 1000, 500, 1, "a"), d("y", 1001, 40, 1), d("z", 0, 3, 3), d("old", math.MinInt, 5, 1), d("new", math.MaxInt, 5, 1)}
	for at, want := range map[int]int{5184000: 5, 5185000: 5, 5185001: 505, 5185002: 545, -1: 0, api.MaxTime: 0, 0: 5, api.MaxTime - 1: 545} {
		r, n := Expire(l, at)
		sum := 0
		for i := range r {
			if r[i].State != l[i].State {
				sum += r[i].Cents
				if r[i].State != 2 || l[i].State != 1 {
					t.Error(at, r)
				}
			}
			r[i].State = l[i].State
		}
		if n != want || sum != want || !reflect.DeepEqual(r, l) {
			t.Error(at, n, sum)
		}
	}
	r, _ := Expire(l, 9)
	r[0].Proofs[0] = "b"
	if l[0].Proofs[0] != "a" {
		t.Error("shared memory")
	}
}

// P36.6, P36.7
func TestConsequences(t *testing.T) {
	r := rand.New(rand.NewSource(1))
	for range 400 {
		var l []api.Dispute
		credits, time := 0, 0
		for range 30 {
			key := "k" + strconv.Itoa(r.Intn(6))
			time += r.Intn(900000)
			before := l
			n := 0
			all := false
			switch r.Intn(5) {
			case 0:
				l, _ = Open(l, key, 1+r.Intn(500), time)
			case 1:
				l, _ = Prove(l, key, "p"+strconv.Itoa(r.Intn(20)), time)
			case 2:
				l, n, _ = Decide(l, key, r.Intn(2) == 0, time)
			case 3:
				l, _ = Withdraw(l, key)
			default:
				l, n = Expire(l, time)
				all = true
			}
			credits += n
			if e := Check(l); e != api.OK {
				t.Fatal(l, int(e))
			}
			sum := 0
			for i, x := range l {
				if x.State == 2 {
					sum += x.Cents
				}
				if i < len(before) && !reflect.DeepEqual(x, before[i]) && (before[i].State != 1 || !all && x.Key != key) {
					t.Fatal("changed", before[i], x)
				}
			}
			if sum != credits {
				t.Fatal(l, credits)
			}
		}
	}
}
