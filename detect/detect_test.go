package detect

import (
	"math"
	"math/rand"
	"slices"
	"testing"

	"tollway/api"
)

const tagOne = "001000000016"

func devices() []api.Device {
	return []api.Device{
		{Name: "cam", Point: "p", Kind: api.DCamera, Lane: 2},
		{Name: "tag", Point: "q", Kind: api.DTag, Lane: 1, Offsets: []api.Offset{{From: 50, Delta: -10}}, Down: []api.Interval{{From: 100, To: 200}}},
		{Name: "loop", Point: "p", Kind: api.DLoop},
		{Name: "odd", Point: "p", Kind: 7},
		{Name: "cam", Point: "other", Kind: api.DLoop},
	}
}

func photo(seq, time int, plate string, score int) api.Detection {
	return api.Detection{Device: "cam", Seq: seq, Time: time, Plate: plate, Score: score}
}

// P13.1, P13.2
func TestCheck(t *testing.T) {
	l := devices()
	for i, x := range []struct {
		d   api.Detection
		why int
		at  int
	}{
		{photo(1, 100, "AB1", 900), 0, 100}, {photo(0, 0, "AB", 0), 0, 0}, {photo(api.MaxNumber, api.MaxTime-1, "AB", 1000), 0, api.MaxTime - 1},
		{api.Detection{Device: "x", Seq: -1}, api.WhyDevice, 0}, {api.Detection{}, api.WhyDevice, 0},
		{photo(1, 100, "ab1", 900), api.WhyForm, 0}, {photo(1, 100, "A B1", 900), api.WhyForm, 0}, {photo(1, 100, "", 900), api.WhyForm, 0}, {photo(1, 100, "A", 900), api.WhyForm, 0}, {photo(-1, 100, "AB1", 900), api.WhyForm, 0}, {photo(api.MaxNumber+1, 100, "AB1", 900), api.WhyForm, 0}, {photo(1, 100, "AB1", -1), api.WhyForm, 0}, {photo(1, 100, "AB1", 1001), api.WhyForm, 0}, {photo(-1, -1, "AB1", 1001), api.WhyForm, 0},
		{api.Detection{Device: "cam", Plate: "AB1", Axles: 2}, api.WhyForm, 0}, {api.Detection{Device: "cam", Plate: "AB1", Tag: tagOne}, api.WhyForm, 0},
		{photo(1, -1, "AB1", 900), api.WhyTime, 0}, {photo(1, api.MaxTime, "AB1", 900), api.WhyTime, 0}, {photo(1, math.MinInt, "AB1", 900), api.WhyTime, 0},
		{api.Detection{Device: "tag", Time: 49, Tag: tagOne}, 0, 49}, {api.Detection{Device: "tag", Time: 50, Tag: tagOne}, 0, 40}, {api.Detection{Device: "tag", Time: 109, Tag: tagOne}, 0, 99}, {api.Detection{Device: "tag", Time: 110, Tag: tagOne}, api.WhyDown, 0}, {api.Detection{Device: "tag", Time: 209, Tag: tagOne}, api.WhyDown, 0}, {api.Detection{Device: "tag", Time: 210, Tag: tagOne}, 0, 200},
		{api.Detection{Device: "tag", Time: 110, Tag: "001000000017"}, api.WhyForm, 0}, {api.Detection{Device: "tag", Tag: tagOne, Plate: "AB1"}, api.WhyForm, 0}, {api.Detection{Device: "tag", Tag: tagOne, Axles: 1}, api.WhyForm, 0}, {api.Detection{Device: "tag"}, api.WhyForm, 0},
		{api.Detection{Device: "loop", Axles: 1, Time: 5}, 0, 5}, {api.Detection{Device: "loop", Axles: 20, Time: 5}, 0, 5}, {api.Detection{Device: "loop", Axles: 0}, api.WhyForm, 0}, {api.Detection{Device: "loop", Axles: 21}, api.WhyForm, 0}, {api.Detection{Device: "loop", Axles: 2, Tag: tagOne}, api.WhyForm, 0}, {api.Detection{Device: "loop", Axles: 2, Plate: "AB1"}, api.WhyForm, 0},
		{api.Detection{Device: "odd", Axles: 2}, api.WhyForm, 0}, {api.Detection{Device: "odd"}, api.WhyForm, 0},
	} {
		if why := Check(l, x.d); why != x.why {
			t.Error(i, x, why)
		}
		want := api.Seen{}
		if x.why == 0 {
			want = api.Seen{D: x.d, Time: x.at, Point: map[string]string{"cam": "p", "tag": "q", "loop": "p"}[x.d.Device], Lane: map[string]int{"cam": 2, "tag": 1}[x.d.Device], Kind: map[string]int{"cam": 2, "tag": 1, "loop": 3}[x.d.Device]}
		}
		if s, why := Correct(l, x.d); s != want || why != x.why {
			t.Error(i, s, why)
		}
	}
}

func sign(n int) int {
	switch {
	case n < 0:
		return -1
	case n > 0:
		return 1
	}
	return 0
}

// P13.3, P13.4: each field decides, in its order
func TestCompare(t *testing.T) {
	change := []func(s *api.Seen, n int){
		func(s *api.Seen, n int) { s.Time = n },
		func(s *api.Seen, n int) { s.Point = string(rune('a' + n)) },
		func(s *api.Seen, n int) { s.Kind = n },
		func(s *api.Seen, n int) { s.Lane = n },
		func(s *api.Seen, n int) { s.D.Device = string(rune('a' + n)) },
		func(s *api.Seen, n int) { s.D.Seq = n },
		func(s *api.Seen, n int) { s.D.Time = n },
		func(s *api.Seen, n int) { s.D.Tag = string(rune('a' + n)) },
		func(s *api.Seen, n int) { s.D.Plate = string(rune('a' + n)) },
		func(s *api.Seen, n int) { s.D.Axles = n },
		func(s *api.Seen, n int) { s.D.Score = n },
	}
	r := rand.New(rand.NewSource(1))
	for range 5000 {
		var a, b api.Seen
		want, wantReject := 0, 0
		for i, f := range change {
			x, y := r.Intn(2), r.Intn(2)
			if r.Intn(3) > 0 {
				y = x
			}
			f(&a, x)
			f(&b, y)
			if want == 0 {
				want = sign(x - y)
			}
			if i > 3 && wantReject == 0 {
				wantReject = sign(x - y)
			}
		}
		if Compare(a, b) != want || Compare(b, a) != -want || (want == 0) != (a == b) {
			t.Fatal(a, b, Compare(a, b), want)
		}
		x, y := api.Reject{D: a.D, Why: r.Intn(2)}, api.Reject{D: b.D, Why: r.Intn(2)}
		if wantReject == 0 {
			wantReject = sign(x.Why - y.Why)
		}
		if Less(x, y) != (wantReject < 0) || Less(y, x) != (wantReject > 0) {
			t.Fatal(x, y)
		}
	}
	if Compare(api.Seen{Time: math.MinInt}, api.Seen{Time: math.MaxInt}) != -1 {
		t.Error("extreme times")
	}
}

// P13.5
func TestSift(t *testing.T) {
	l := devices()
	a, b := photo(1, 100, "AB1", 900), photo(1, 100, "AB2", 900)
	seen, rejects := Sift(l, []api.Detection{a, a, a})
	if len(seen) != 1 || seen[0].D != a || len(rejects) != 0 {
		t.Error(seen, rejects)
	}
	seen, rejects = Sift(l, []api.Detection{b, a})
	if len(seen) != 0 || !slices.Equal(rejects, []api.Reject{{D: a, Why: api.WhyConflict}, {D: b, Why: api.WhyConflict}}) {
		t.Error(seen, rejects)
	}
	x, y := api.Detection{Device: "x", Seq: 4, Time: 9}, api.Detection{Device: "x", Seq: 4, Time: 5}
	seen, rejects = Sift(l, []api.Detection{x, y, x})
	if len(seen) != 0 || !slices.Equal(rejects, []api.Reject{{D: y, Why: api.WhyConflict}, {D: x, Why: api.WhyConflict}}) {
		t.Error(seen, rejects)
	}
	seen, rejects = Sift(l, []api.Detection{x, x, photo(2, 50, "AB3", 0), photo(3, 40, "AB3", 0), photo(4, -5, "AB3", 0)})
	if len(seen) != 2 || seen[0].Time != 40 || seen[1].Time != 50 || len(rejects) != 2 || rejects[0].Why != api.WhyTime || rejects[1].Why != api.WhyDevice {
		t.Error(seen, rejects)
	}
	if seen, rejects = Sift(l, nil); len(seen) != 0 || len(rejects) != 0 {
		t.Error(seen, rejects)
	}
}

func random(r *rand.Rand) []api.Detection {
	ds := make([]api.Detection, r.Intn(9))
	for i := range ds {
		ds[i] = api.Detection{Device: []string{"cam", "tag", "loop", "x"}[r.Intn(4)], Seq: r.Intn(5) - 1, Time: r.Intn(250)}
		switch r.Intn(4) {
		case 0:
			ds[i].Plate = "AB1"
		case 1:
			ds[i].Tag = tagOne
		case 2:
			ds[i].Axles = r.Intn(3)
		}
	}
	return ds
}

// P13.5 to P13.8
func TestSiftAnyOrder(t *testing.T) {
	r := rand.New(rand.NewSource(2))
	l := devices()
	for range 3000 {
		ds := random(r)
		seen, rejects := Sift(l, ds)
		count := map[api.Detection]int{}
		for i, s := range seen {
			count[s.D]++
			if x, why := Correct(l, s.D); why != 0 || x != s || i > 0 && Compare(seen[i-1], s) >= 0 {
				t.Fatal(ds, seen)
			}
		}
		for i, x := range rejects {
			count[x.D]++
			conflict := slices.ContainsFunc(ds, func(d api.Detection) bool {
				return d != x.D && d.Device == x.D.Device && d.Seq == x.D.Seq
			})
			if conflict != (x.Why == api.WhyConflict) || !conflict && x.Why != Check(l, x.D) || i > 0 && !Less(rejects[i-1], x) {
				t.Fatal(ds, rejects)
			}
		}
		for _, d := range ds {
			if count[d] != 1 {
				t.Fatal("not once", d, seen, rejects)
			}
		}
		again := append(slices.Clone(ds), ds...)
		r.Shuffle(len(again), func(i, j int) { again[i], again[j] = again[j], again[i] })
		s, x := Sift(l, again[:])
		if !slices.Equal(s, seen) || !slices.Equal(x, rejects) {
			t.Fatal("the order matters", ds)
		}
		var stepSeen []api.Seen
		var stepRejects []api.Reject
		for _, d := range again {
			stepSeen, stepRejects = Add(l, stepSeen, stepRejects, d)
		}
		if !slices.Equal(stepSeen, seen) || !slices.Equal(stepRejects, rejects) {
			t.Fatal("Add", ds)
		}
	}
}

// P13.6: Add determines everything again, whatever the elements of the lists say besides their detections.
func TestAdd(t *testing.T) {
	l := devices()
	a, b := photo(1, 100, "AB1", 900), photo(2, 50, "AB2", 900)
	seen, rejects := Add(l, []api.Seen{{D: a, Time: 7, Point: "z"}}, []api.Reject{{D: b, Why: api.WhyConflict}}, a)
	if len(seen) != 2 || seen[0].D != b || seen[1].Time != 100 || len(rejects) != 0 {
		t.Error(seen, rejects)
	}
	seen, rejects = Add(l, []api.Seen{{D: a}}, nil, photo(1, 100, "AB2", 900))
	if len(seen) != 0 || len(rejects) != 2 {
		t.Error(seen, rejects)
	}
}
