package audit

import (
	"math"
	"math/rand"
	"slices"
	"strconv"
	"testing"

	"tollway/api"
	"tollway/bill"
	"tollway/digest"
	"tollway/engine"
	"tollway/fresh"
	"tollway/sample"
)

const day = 86400

func charge(key string, time, cents int) api.Charge {
	return api.Charge{Key: key, Time: time, Cents: cents}
}

func find(key string, day, have, want int) api.Finding {
	return api.Finding{Key: key, Day: day, Have: have, Want: want}
}

// P50.1
func TestLeaves(t *testing.T) {
	x := api.Charge{Key: "k", Vehicle: "v", System: "s", Class: 1, Time: 2, Cents: 3}
	y := x
	y.Lines = []api.Line{{Text: "ab", Cents: -1}}
	l := Leaves([]api.Charge{x, y})
	want := []uint64{digest.Hash([]byte{2, 107, 2, 118, 2, 115, 2, 4, 6, 0}), digest.Hash([]byte{2, 107, 2, 118, 2, 115, 2, 4, 6, 2, 4, 97, 98, 1})}
	if !slices.Equal(l, want) {
		t.Error(l, want)
	}
	if l := Leaves(nil); len(l) != 0 {
		t.Error(l)
	}
}

// P50.2: the example
func TestLocate(t *testing.T) {
	have, want := []api.Charge{charge("a", 90000, 100), charge("b", 90000, 200)}, []api.Charge{charge("b", 90000, 250), charge("c", 90000, 300)}
	if l := Locate(have, want); !slices.Equal(l, []api.Finding{find("a", 1, 100, 0), find("b", 1, 200, 250), find("c", 1, 0, 300)}) {
		t.Error(l)
	}
	if n := Lost(have, want); n != 300 {
		t.Error(n)
	}
	if l := Days(have, want); !slices.Equal(l, []api.Finding{find("", 1, 300, 550)}) {
		t.Error(l)
	}
	// The day is that of want; the first charge of a key counts; any field may differ.
	x, y := charge("k", 5, 7), charge("k", 3*day, 7)
	if l := Locate([]api.Charge{x, y}, []api.Charge{y, x}); !slices.Equal(l, []api.Finding{find("k", 3, 7, 7)}) {
		t.Error(l)
	}
	if l := Locate([]api.Charge{x, y}, []api.Charge{x}); len(l) != 0 {
		t.Error(l)
	}
	if l := Locate([]api.Charge{charge("k", -1, 7)}, nil); !slices.Equal(l, []api.Finding{find("k", -1, 7, 0)}) {
		t.Error(l)
	}
	if l := Locate(nil, nil); len(l) != 0 {
		t.Error(l)
	}
	for i, change := range []func(x *api.Charge){func(x *api.Charge) { x.Vehicle = "x" }, func(x *api.Charge) { x.System = "x" }, func(x *api.Charge) { x.Class = 5 }, func(x *api.Charge) { x.Time = 6 }, func(x *api.Charge) { x.Cents = 8 }, func(x *api.Charge) { x.Lines = []api.Line{{}} }} {
		z := x
		change(&z)
		if l := Locate([]api.Charge{x}, []api.Charge{z}); len(l) != 1 || l[0].Have != 7 || l[0].Want != z.Cents {
			t.Error(i, l)
		}
	}
}

// P50.3, P50.6
func TestSums(t *testing.T) {
	have := []api.Charge{charge("a", 0, 100), charge("b", day, 5), charge("c", 5*day, 0), charge("d", -1, 5), charge("e", 0, api.MaxMoney+1)}
	want := []api.Charge{charge("x", 5, 40), charge("y", 6, 60), charge("z", 2*day, 7), charge("q", 2*day, -7), charge("r", 3*day, 1)}
	if l := Days(have, want); !slices.Equal(l, []api.Finding{find("", 1, 5, 0), find("", 3, 0, 1)}) {
		t.Error(l)
	}
	if l := Days(nil, nil); len(l) != 0 {
		t.Error(l)
	}
	for i, x := range []struct {
		have, want []api.Charge
		n          int
	}{
		{nil, nil, 0}, {have, nil, 0}, {nil, []api.Charge{charge("a", 0, 5), charge("a", 0, 9), charge("b", -1, 7)}, 12}, {[]api.Charge{charge("a", 0, 1)}, []api.Charge{charge("a", 0, 5), charge("b", 0, 7)}, 7}, {nil, []api.Charge{charge("a", 0, -5), charge("a", 0, 9), charge("b", 0, api.MaxMoney+1), charge("c", 0, api.MaxMoney), charge("d", 0, math.MinInt)}, api.MaxMoney},
	} {
		if n := Lost(x.have, x.want); n != x.n {
			t.Error(i, n)
		}
	}
}

// P50.4, P50.5, P50.10
func TestState(t *testing.T) {
	r := rand.New(rand.NewSource(1))
	changed := 0
	for range 12 {
		s, e := engine.New(sample.Config())
		if e != api.OK {
			t.Fatal(int(e))
		}
		for range 60 {
			x := sample.Event(r.Intn)
			next, why := engine.Do(s, x)
			if why != api.OK {
				continue
			}
			s = next
			if l, e := Recompute(s); len(l) != 0 || e != api.OK {
				t.Fatal(l, int(e))
			}
			if l := Books(s); x.Kind == api.IClose && len(l) != 0 {
				t.Fatal(l)
			}
		}
		s, _ = engine.Do(s, api.Event{Kind: api.IClose, Day: 50})
		if len(s.Result.Charges) < 2 {
			continue
		}
		changed++
		i := r.Intn(len(s.Result.Charges))
		x := s.Result.Charges[i]
		wrong := fresh.State(s)
		wrong.Result.Charges[i].Cents++
		want := []api.Finding{find(x.Key, x.Time/day, x.Cents+1, x.Cents)}
		if l, e := Recompute(wrong); !slices.Equal(l, want) || e != api.OK {
			t.Fatal(l, want)
		}
		if l := Books(wrong); !slices.Equal(l, []api.Finding{find(x.Key, x.Time/day, x.Cents, x.Cents+1)}) {
			t.Fatal(l)
		}
		wrong.Result.Charges = slices.Delete(wrong.Result.Charges, i, i+1)
		if l, _ := Recompute(wrong); !slices.Equal(l, []api.Finding{find(x.Key, x.Time/day, 0, x.Cents)}) {
			t.Fatal(l)
		}
		wrong = fresh.State(s)
		wrong.Closed = x.Time/day + 1
		for _, f := range Books(wrong) {
			if f.Day <= x.Time/day || f.Want != 0 {
				t.Fatal(f)
			}
		}
	}
	if changed == 0 {
		t.Error("no state has charges")
	}
	// Charges whose time is not a time are not closed.
	odd := api.State{Closed: 5, Result: api.Result{Charges: []api.Charge{charge("a", -5, 1), charge("b", 4*day, 2), charge("c", 5*day, 3)}}}
	if l := Books(odd); !slices.Equal(l, []api.Finding{find("b", 4, 0, 2)}) {
		t.Error(l)
	}
}

// P50.4: the error of batch.Finish
func TestError(t *testing.T) {
	c := sample.Config()
	c.Tariffs[0].Valid.To = api.MaxTime
	s := api.State{Config: c, Seen: []api.Seen{{D: api.Detection{Device: "topen", Tag: sample.Tag(1), Score: 1000}, Time: api.MaxDay * day, Point: "open", Kind: api.DTag}}}
	if l, e := Recompute(s); len(l) != 0 || e != api.ErrTime {
		t.Error(l, int(e))
	}
}

// P50.7 to P50.9
func TestConsequences(t *testing.T) {
	r := rand.New(rand.NewSource(2))
	random := func() []api.Charge {
		var l []api.Charge
		for i := range 8 {
			if r.Intn(3) > 0 {
				l = append(l, charge("k"+strconv.Itoa(i), r.Intn(2)*day, r.Intn(2)))
			}
		}
		r.Shuffle(len(l), func(i, j int) { l[i], l[j] = l[j], l[i] })
		return l
	}
	for range 500 {
		a, b := random(), random()
		at := func(l []api.Charge, key string) int {
			return slices.IndexFunc(l, func(x api.Charge) bool { return x.Key == key })
		}
		found := Locate(a, b)
		back := Locate(b, a)
		if len(found) != len(back) || len(Locate(a, a)) != 0 {
			t.Fatal(found, back)
		}
		n := 0
		for i := range 8 {
			key := "k" + strconv.Itoa(i)
			x, y := at(a, key), at(b, key)
			differ := (x < 0) != (y < 0) || x >= 0 && (a[x].Time != b[y].Time || a[x].Cents != b[y].Cents)
			if differ {
				if n >= len(found) || found[n].Key != key || back[n].Key != key || found[n].Have != back[n].Want || found[n].Want != back[n].Have {
					t.Fatal(a, b, found, back)
				}
				n++
			}
		}
		if n != len(found) {
			t.Fatal(a, b, found)
		}
		r.Shuffle(len(a), func(i, j int) { a[i], a[j] = a[j], a[i] })
		if !slices.Equal(Locate(a, b), found) {
			t.Fatal("the order matters")
		}
		days, sums := bill.Days(a)
		days2, sums2 := bill.Days(b)
		sum := func(days, sums []int, day int) int {
			if i := slices.Index(days, day); i >= 0 {
				return sums[i]
			}
			return 0
		}
		findings := Days(a, b)
		for d := range 3 {
			x, y := sum(days, sums, d), sum(days2, sums2, d)
			if slices.Contains(findings, find("", d, x, y)) != (x != y) {
				t.Fatal(findings, d, x, y)
			}
		}
	}
}
