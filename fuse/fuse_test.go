package fuse

import (
	"math"
	"math/rand"
	"reflect"
	"slices"
	"strconv"
	"testing"

	"tollway/api"
	"tollway/detect"
	"tollway/group"
	"tollway/match"
	"tollway/score"
	"tollway/tag"
)

var number int

func seen(kind, time, lane int, d api.Detection) api.Seen {
	number++
	d.Device = [...]string{"", "tag", "cam", "loop"}[kind] + strconv.Itoa(lane)
	d.Seq, d.Time = number, time
	return api.Seen{D: d, Time: time, Point: "p", Lane: lane, Kind: kind}
}

func tagged(n, time, lane int) api.Seen {
	return seen(api.DTag, time, lane, api.Detection{Tag: name(n), Score: 1000})
}

func name(n int) string {
	s, _ := tag.Make("001", n)
	return s
}

func photo(plate string, time, lane int) api.Seen {
	return seen(api.DCamera, time, lane, api.Detection{Plate: plate, Score: 900})
}

func axles(n, time, lane int) api.Seen {
	return seen(api.DLoop, time, lane, api.Detection{Axles: n})
}

func config() api.Config {
	return api.Config{Gap: 20, Classes: []api.ClassRule{{From: 2, To: 2, Class: 2}, {From: 3, To: 5, Class: 4}}}
}

func src(l ...api.Seen) []api.Source {
	var r []api.Source
	for _, s := range l {
		r = append(r, api.Source{Device: s.D.Device, Seq: s.D.Seq})
	}
	return r
}

func id(s api.Seen) string { return s.D.Device + "." + strconv.Itoa(s.D.Seq) }

// P16.1, P16.2: the examples
func TestExamples(t *testing.T) {
	a, b := tagged(1, 100, 1), photo("AB12", 103, 1)
	want := api.Passage{ID: id(b), Point: "p", Time: 100, Tag: name(1), Plate: "AB12", Class: 1, Score: 1000, Sources: src(b, a)}
	ps, lanes, cost, margin, ok := Vehicles(config(), []api.Seen{b, a})
	if !reflect.DeepEqual(ps, []api.Passage{want}) || !slices.Equal(lanes, []int{1}) || cost != 40 || margin != 360 || !ok {
		t.Error(ps, lanes, cost, margin, ok)
	}
	if x := Frame(config(), []api.Seen{b, a}); !reflect.DeepEqual(x.Passages, []api.Passage{want}) || len(x.Rejects) != 0 || x.Cost != 140 || x.Margin != 360 {
		t.Error(x)
	}
	c := axles(2, 102, 1)
	want.Class, want.Sources = 2, src(b, c, a)
	if x := Frame(config(), []api.Seen{c, b, a}); !reflect.DeepEqual(x.Passages, []api.Passage{want}) || len(x.Rejects) != 0 || x.Cost != 50 || x.Margin != 360 {
		t.Error(x)
	}
	ps, _, _, _, _ = Vehicles(config(), []api.Seen{c, b, a})
	if ps[0].Class != 1 || len(ps[0].Sources) != 2 {
		t.Error("Vehicles knows the loop", ps)
	}
	if x := Frame(config(), []api.Seen{c}); len(x.Passages) != 0 || !slices.Equal(x.Rejects, []api.Reject{{D: c.D, Why: api.WhyAxles}}) || x.Cost != 100 || x.Margin != -1 {
		t.Error(x)
	}
	if ps, lanes, cost, margin, ok := Vehicles(config(), nil); len(ps)+len(lanes)+cost != 0 || margin != -1 || !ok {
		t.Error(ps, lanes, cost, margin, ok)
	}
	if x := Frame(config(), nil); len(x.Passages)+len(x.Rejects)+x.Cost != 0 || x.Margin != -1 {
		t.Error(x)
	}
}

// P16.1, P16.2: frames that are blocked
func TestBlocked(t *testing.T) {
	many := func(n int, f func(i int) api.Seen) []api.Seen {
		var l []api.Seen
		for i := range n {
			l = append(l, f(i))
		}
		return l
	}
	tags := func(n int) []api.Seen {
		return many(n, func(i int) api.Seen { return tagged(i, 100, 1) })
	}
	plates := func(n int) []api.Seen {
		return many(n, func(i int) api.Seen { return photo(string(rune('A'+i))+"KKK", 100, 1) })
	}
	loops := func(n int) []api.Seen {
		return many(n, func(i int) api.Seen { return axles(2, 100, 1) })
	}
	elsewhere := tagged(1, 100, 1)
	elsewhere.Point = "q"
	one := func(n int) []api.Seen { return many(n, func(i int) api.Seen { return tagged(1, 100, 1) }) }
	for i, x := range []struct {
		f       []api.Seen
		blocked bool
	}{
		{one(24), false}, {one(25), true}, {tags(8), false}, {tags(9), true}, {plates(8), false}, {plates(9), true}, {loops(8), false}, {loops(9), true}, {append(tags(1), elsewhere), true}, {slices.Concat(tags(8), plates(8), loops(8)), false},
	} {
		ps, lanes, cost, margin, ok := Vehicles(config(), x.f)
		if ok == x.blocked || x.blocked && len(ps)+len(lanes)+cost+margin != 0 {
			t.Error(i, ok)
		}
		f := Frame(config(), x.f)
		if !x.blocked {
			if slices.ContainsFunc(f.Rejects, func(r api.Reject) bool { return r.Why == api.WhyBlocked }) {
				t.Error(i, f)
			}
			continue
		}
		if len(f.Passages) != 0 || len(f.Rejects) != len(x.f) || f.Cost != 0 || f.Margin != -1 || !slices.IsSortedFunc(f.Rejects, func(a, b api.Reject) int {
			if detect.Less(a, b) {
				return -1
			}
			return 1
		}) {
			t.Error(i, f)
		}
		for _, r := range f.Rejects {
			if r.Why != api.WhyBlocked {
				t.Error(i, r)
			}
		}
		if s, n, ok := Other(config(), x.f, 0); s != "" || n != 0 || ok {
			t.Error(i, s, n)
		}
	}
}

// P16.1: a transponder that is not valid has no tag, and may leave the vehicle unidentified.
func TestTagStates(t *testing.T) {
	c := config()
	c.Tags = []api.TagState{{Tag: name(1), From: 100, State: 2}, {Tag: name(1), From: 200, State: 1}, {Tag: name(1), From: 300, State: 3}}
	for at, want := range map[int]string{99: name(1), 100: "", 199: "", 200: name(1), 300: ""} {
		a := tagged(1, at, 1)
		ps, _, cost, margin, ok := Vehicles(c, []api.Seen{a})
		if len(ps) != 1 || ps[0].Tag != want || ps[0].Plate != "" || cost != 200 || margin != -1 || !ok {
			t.Error(at, ps)
		}
		l := axles(2, at, 1)
		x := Frame(c, []api.Seen{a, l})
		if want == "" {
			if len(x.Passages) != 0 || x.Cost != 300 || !slices.Equal(x.Rejects, []api.Reject{{D: l.D, Why: api.WhyAxles}, {D: a.D, Why: api.WhyWeak}}) {
				t.Error(at, x)
			}
		} else if len(x.Passages) != 1 || x.Passages[0].Class != 2 || x.Cost != 200 || len(x.Rejects) != 0 {
			t.Error(at, x)
		}
		// The least time counts: that of the camera.
		if x := Frame(c, []api.Seen{photo("AB12", at-5, 1), a}); len(x.Passages) != 1 || x.Passages[0].Time != at-5 || x.Passages[0].Plate != "AB12" || x.Passages[0].Tag != map[int]string{99: name(1), 100: name(1), 300: name(1)}[at] {
			t.Error(at, x)
		}
	}
}

// P16.2: a vehicle whose score is too low is rejected, with its loop.
func TestWeak(t *testing.T) {
	a, b, l := photo("AB12", 100, 1), photo("XY99", 101, 2), axles(2, 100, 1)
	f := []api.Seen{a, b, l}
	ps, _, _, _, _ := Vehicles(config(), f)
	if ps[0].Score != 1000 { // 600 + 2000 - 200: there is no other assignment
		t.Error(ps)
	}
	g := []api.Seen{tagged(1, 100, 1), photo("AB12", 100, 1), photo("AB99", 101, 1), axles(2, 100, 1)}
	for _, weak := range []int{0, 500, 600, 607, 608, 609, 1000, 1001} {
		c := config()
		c.Weak = weak
		vs, _, _, _, _ := Vehicles(c, g)
		x := Frame(c, g)
		for _, v := range vs {
			has := slices.ContainsFunc(x.Passages, func(p api.Passage) bool { return p.Tag == v.Tag && p.Plate == v.Plate })
			if has != (v.Score >= weak) {
				t.Error(weak, v, x)
			}
			if i := slices.Index(x.Rejects, api.Reject{D: g[3].D, Why: api.WhyWeak}); v.Tag != "" && (i >= 0) == has {
				t.Error("the loop", weak, x)
			}
		}
	}
	c := config()
	c.Weak = math.MaxInt
	if x := Frame(c, f); len(x.Passages) != 0 || len(x.Rejects) != 3 || x.Cost != 500 {
		t.Error(x)
	}
}

// P16.1, P16.2: scores below the greatest one, and the limit
func TestScores(t *testing.T) {
	far := photo("XY99", 105, 2)
	f := []api.Seen{tagged(1, 100, 1), photo("AB12", 103, 1), far}
	ps, _, cost, margin, _ := Vehicles(config(), f)
	// The pairs cost 40 and 110; the other plate group stays alone for 200.
	if cost != 240 || margin != 70 || len(ps) != 2 || ps[0].Score != 600+2*70-40 || ps[1].Score != 600+2*70-200 {
		t.Error(cost, margin, ps)
	}
	for weak, want := range map[int]int{539: 2, 540: 2, 541: 1, 700: 1, 701: 0} {
		c := config()
		c.Weak = weak
		if x := Frame(c, f); len(x.Passages) != want {
			t.Error(weak, x)
		}
	}
}

// P16.2: the identifier is that of the first source, which may be the loop; the class of the loop applies if there is one.
func TestLoopFirst(t *testing.T) {
	a := photo("AB12", 100, 1)
	l := axles(2, 100, 1)
	l.D.Device = "a"
	x := Frame(config(), []api.Seen{a, l})
	if len(x.Passages) != 1 || x.Passages[0].ID != id(l) || !slices.Equal(x.Passages[0].Sources, src(l, a)) || x.Passages[0].Class != 2 {
		t.Error(x)
	}
	l.D.Axles = 7
	if x := Frame(config(), []api.Seen{a, l}); x.Passages[0].Class != 1 || len(x.Passages[0].Sources) != 2 {
		t.Error(x)
	}
	// The lane is that of the first reading: the loop of that lane is nearer.
	first, second := photo("AB12", 100, 3), photo("AB12", 101, 1)
	one, three := axles(2, 100, 1), axles(3, 101, 3)
	x = Frame(config(), []api.Seen{second, first, one, three})
	if len(x.Passages) != 1 || x.Passages[0].Class != 4 || len(x.Rejects) != 1 || x.Rejects[0].D != one.D || x.Cost != 200+5+100 {
		t.Error(x)
	}
}

// P16.2: with more than eight identified vehicles no loop is assigned.
func TestManyVehicles(t *testing.T) {
	var f []api.Seen
	for i := range 5 {
		f = append(f, tagged(i, 100, 1), photo(string(rune('A'+i))+"KKK", 140, 1))
	}
	loop := axles(2, 100, 1)
	x := Frame(config(), append(f, loop))
	if len(x.Passages) != 10 || !slices.Equal(x.Rejects, []api.Reject{{D: loop.D, Why: api.WhyAxles}}) || x.Cost != 10*200+100 {
		t.Error(x)
	}
	x = Frame(config(), append(f[:8:8], loop))
	if len(x.Passages) != 8 || len(x.Rejects) != 0 || x.Cost != 8*200+7*100 {
		t.Error(x)
	}
}

// P16.1: the readings of a plate group vote with their scores.
func TestVote(t *testing.T) {
	a, b, c := photo("AB12", 100, 1), photo("A812", 101, 1), photo("AB12", 102, 2)
	a.D.Score, b.D.Score, c.D.Score = 100, 900, 700
	ps, lanes, _, _, _ := Vehicles(config(), []api.Seen{c, b, a})
	if len(ps) != 1 || ps[0].Plate != "A812" || ps[0].Time != 100 || lanes[0] != 1 || len(ps[0].Sources) != 3 || !slices.IsSortedFunc(ps[0].Sources, func(a, b api.Source) int {
		if a.Device < b.Device || a.Device == b.Device && a.Seq < b.Seq {
			return -1
		}
		return 1
	}) {
		t.Error(ps, lanes)
	}
}

// P16.3
func TestOther(t *testing.T) {
	a := tagged(1, 100, 1)
	near, far := photo("AB12", 103, 1), photo("XY99", 105, 1)
	far.Lane = 2
	for i, x := range []struct {
		f     []api.Seen
		i     int
		plate string
		n     int
		ok    bool
	}{
		{[]api.Seen{a, near}, 0, "", 360, true}, {[]api.Seen{a, near, far}, 0, "XY99", 70, true}, {[]api.Seen{a, near, far}, 1, "", 0, false}, {[]api.Seen{a}, 0, "", 0, false}, {[]api.Seen{near}, 0, "", 0, false}, {[]api.Seen{a, near}, 1, "", 0, false}, {[]api.Seen{a, near}, -1, "", 0, false}, {[]api.Seen{a, near}, math.MinInt, "", 0, false}, {[]api.Seen{a, near}, math.MaxInt, "", 0, false}, {nil, 0, "", 0, false},
		{[]api.Seen{tagged(1, 100, 1), photo("AB12", 121, 1)}, 0, "", 0, false},
	} {
		if s, n, ok := Other(config(), x.f, x.i); s != x.plate || n != x.n || ok != x.ok {
			t.Error(i, s, n, ok)
		}
	}
	// Equal costs: the earlier plate group; a plate group before none.
	if s, n, ok := Other(config(), []api.Seen{a, near, photo("XY99", 103, 1), photo("QQQQ", 103, 1)}, 0); s != "QQQQ" && s != "XY99" || n != 0 || !ok {
		t.Error(s, n, ok)
	}
	b := photo("XY99", 100, 2)
	b.D.Score, b.Time = 0, 119 // 190 + 50 + 100 = 340 and 60 more than to stay alone
	c := photo("AB12", 97, 1)
	c.D.Score = 1000
	if s, n, ok := Other(config(), []api.Seen{a, c, b}, 0); s != "XY99" || n != 310 || !ok {
		t.Error(s, n, ok)
	}
	// An alternative that costs nothing more is the best one, and no plate group comes later.
	four := []api.Seen{tagged(1, 100, 1), tagged(2, 100, 1), photo("AB12", 100, 1), photo("XY99", 100, 1)}
	for i := range four {
		four[i].D.Score = 1000
	}
	if s, n, ok := Other(config(), four, 0); s != "XY99" || n != 0 || !ok {
		t.Error(s, n, ok)
	}
	// A tag group that stays alone in the best assignment has the other choices.
	two := []api.Seen{tagged(1, 100, 1), tagged(2, 101, 1), photo("AB12", 101, 1)}
	if s, n, ok := Other(config(), two, 0); s != "AB12" || n != 10 || !ok {
		t.Error(s, n, ok)
	}
}

// random returns detections of one point, with readings of a few vehicles.
func random(r *rand.Rand) []api.Seen {
	var f []api.Seen
	for range r.Intn(9) {
		at, lane := 100+r.Intn(25), 1+r.Intn(2)
		var s api.Seen
		switch r.Intn(3) {
		case 0:
			s = tagged(r.Intn(4), at, lane)
		case 1:
			s = photo([]string{"AB12", "A812", "XY99", "QQQ1"}[r.Intn(4)], at, lane)
		default:
			s = axles(1+r.Intn(6), at, lane)
		}
		s.D.Score = r.Intn(1001)
		f = append(f, s)
	}
	return f
}

// P16.6 to P16.8
func TestRandomFrames(t *testing.T) {
	r := rand.New(rand.NewSource(1))
	for range 1500 {
		c := config()
		c.Weak = r.Intn(1000)
		c.Tags = []api.TagState{{Tag: name(0), State: 1 + r.Intn(3)}}
		f := random(r)
		x := Frame(c, f)
		count := map[api.Source]int{}
		for i, p := range x.Passages {
			if p.Score < c.Weak || p.Tag == "" && p.Plate == "" || p.ID != p.Sources[0].Device+"."+strconv.Itoa(p.Sources[0].Seq) || i > 0 && x.Passages[i-1].Time > p.Time {
				t.Fatal(x)
			}
			for _, s := range p.Sources {
				count[s]++
			}
		}
		for i, d := range x.Rejects {
			count[api.Source{Device: d.D.Device, Seq: d.D.Seq}]++
			if i > 0 && !detect.Less(x.Rejects[i-1], d) {
				t.Fatal("order", x.Rejects)
			}
		}
		for _, s := range src(f...) {
			if count[s] != 1 {
				t.Fatal("not once", s, x)
			}
		}
		if len(count) != len(f) {
			t.Fatal("too many", x)
		}
		ps, lanes, cost, margin, ok := Vehicles(c, f)
		tags, plates := score.Merge(group.Of(f, 1)), score.Merge(group.Of(f, 2))
		m := score.Matrix(tags, plates)
		best, least, _ := match.Best(m)
		_, second, two := match.Second(m)
		if !ok || cost != least || x.Margin != margin || two != (margin >= 0) || two && margin != second-least || len(lanes) != len(ps) {
			t.Fatal(cost, least, margin)
		}
		for i := range ps {
			s, n, ok := Other(c, f, i)
			low, has := 0, false
			for j := -1; i < len(tags) && j < len(plates); j++ {
				if k, ok := match.With(m, i, j); ok && j != best[i] && (!has || k < low) {
					low, has = k, true
				}
			}
			if ok != has || ok && (n != low-least || n < 0 || n < margin) || !ok && (s != "" || n != 0) {
				t.Fatal(i, s, n, ok, low-least, has)
			}
		}
		before := slices.Clone(f)
		g := slices.Clone(f)
		r.Shuffle(len(g), func(i, j int) { g[i], g[j] = g[j], g[i] })
		qs, ls, n, k, _ := Vehicles(c, g)
		if !reflect.DeepEqual(Frame(c, g), x) || !reflect.DeepEqual(qs, ps) || !slices.Equal(ls, lanes) || n != cost || k != margin {
			t.Fatal("the order matters", f)
		}
		if !slices.Equal(before, f) {
			t.Fatal("the argument is changed")
		}
	}
}

// P16.4, P16.9
func TestAll(t *testing.T) {
	r := rand.New(rand.NewSource(2))
	for range 300 {
		c := config()
		c.Gap = r.Intn(30)
		var all []api.Seen
		for k := range 4 {
			for _, s := range random(r) {
				s.Point = string(rune('p' + k%2))
				s.Time += 40 * (k / 2)
				all = append(all, s)
			}
		}
		r.Shuffle(len(all), func(i, j int) { all[i], all[j] = all[j], all[i] })
		ps, rs := All(c, all)
		passages, rejects := 0, 0
		for _, f := range group.Frames(all, c.Gap) {
			x := Frame(c, f)
			passages += len(x.Passages)
			rejects += len(x.Rejects)
			for _, p := range x.Passages {
				if !slices.ContainsFunc(ps, func(q api.Passage) bool { return reflect.DeepEqual(p, q) }) {
					t.Fatal("missing", p)
				}
			}
			for _, d := range x.Rejects {
				if !slices.Contains(rs, d) {
					t.Fatal("missing", d)
				}
			}
		}
		if len(ps) != passages || len(rs) != rejects {
			t.Fatal(len(ps), passages, len(rs), rejects)
		}
		for i := range ps {
			if i > 0 && (ps[i-1].Time > ps[i].Time || ps[i-1].Time == ps[i].Time && (ps[i-1].Point > ps[i].Point || ps[i-1].Point == ps[i].Point && ps[i-1].ID >= ps[i].ID)) {
				t.Fatal("order", ps)
			}
		}
		for i := range rs {
			if i > 0 && !detect.Less(rs[i-1], rs[i]) {
				t.Fatal("order", rs)
			}
		}
		for _, point := range []string{"p", "q"} {
			var alone []api.Seen
			for _, s := range all {
				if s.Point == point {
					alone = append(alone, s)
				}
			}
			qs, _ := All(c, alone)
			var want []api.Passage
			for _, p := range ps {
				if p.Point == point {
					want = append(want, p)
				}
			}
			if len(qs)+len(want) > 0 && !reflect.DeepEqual(qs, want) {
				t.Fatal("not apart", point, qs, want)
			}
		}
	}
}

// P16.5
func TestUsed(t *testing.T) {
	a, b, c := api.Source{Device: "b", Seq: 1}, api.Source{Device: "a", Seq: 2}, api.Source{Device: "b", Seq: -1}
	x := api.Fused{Passages: []api.Passage{{Sources: []api.Source{a, b}}, {}, {Sources: []api.Source{c, a}}}}
	if l := Used(x); !slices.Equal(l, []api.Source{b, c, a}) {
		t.Error(l)
	}
	if l := Used(api.Fused{}); len(l) != 0 {
		t.Error(l)
	}
}
