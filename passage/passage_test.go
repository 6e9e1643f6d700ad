package passage

import (
	"math"
	"math/rand"
	"reflect"
	"slices"
	"strconv"
	"strings"
	"testing"

	"tollway/api"
)

const (
	tagT = "001000000016"
	tagU = "001000000024"
)

func sources(n int) []api.Source {
	var l []api.Source
	for i := range n {
		l = append(l, api.Source{Device: "cam", Seq: i})
	}
	return l
}

func good() api.Passage {
	return api.Passage{ID: "cam.0", Point: "p", Time: 5, Tag: tagT, Plate: "AB1", Class: 1, Score: 900, Sources: sources(2)}
}

// P17.1
func TestCheck(t *testing.T) {
	n := api.Network{Points: []api.Point{{Name: "p", Kind: 1}}}
	for i, x := range []struct {
		change func(p *api.Passage)
		e      api.Errno
	}{
		{func(p *api.Passage) {}, api.OK}, {func(p *api.Passage) { p.Point, p.Time = "q", -1 }, api.ErrPoint}, {func(p *api.Passage) { p.Time, p.Tag, p.Plate = -1, "", "" }, api.ErrTime}, {func(p *api.Passage) { p.Time = api.MaxTime }, api.ErrTime}, {func(p *api.Passage) { p.Time = api.MaxTime - 1 }, api.OK}, {func(p *api.Passage) { p.Time = 0 }, api.OK}, {func(p *api.Passage) { p.Score = 0 }, api.OK},
		{func(p *api.Passage) { p.Tag, p.Plate, p.Class = "", "", 10 }, api.ErrArg}, {func(p *api.Passage) { p.Tag, p.Plate = "x", "y" }, api.ErrTag}, {func(p *api.Passage) { p.Tag = "" }, api.OK}, {func(p *api.Passage) { p.Plate = "" }, api.OK}, {func(p *api.Passage) { p.Plate, p.Class = "ab1", 10 }, api.ErrPlate}, {func(p *api.Passage) { p.Plate = "A" }, api.ErrPlate},
		{func(p *api.Passage) { p.Class, p.Score = -1, -1 }, api.ErrClass}, {func(p *api.Passage) { p.Class = 10 }, api.ErrClass}, {func(p *api.Passage) { p.Class = 0 }, api.OK}, {func(p *api.Passage) { p.Class = 9 }, api.OK}, {func(p *api.Passage) { p.Score, p.Sources = -1, nil }, api.ErrArg}, {func(p *api.Passage) { p.Score = 1001 }, api.ErrArg}, {func(p *api.Passage) { p.Score = 1000 }, api.OK},
		{func(p *api.Passage) { p.Sources, p.ID = nil, "" }, api.ErrLimit}, {func(p *api.Passage) { p.Sources = sources(24) }, api.OK}, {func(p *api.Passage) { p.Sources = sources(25) }, api.ErrLimit}, {func(p *api.Passage) { p.Sources[0] = api.Source{Device: "C", Seq: -1} }, api.ErrName}, {func(p *api.Passage) { p.Sources[0].Seq = -1 }, api.ErrRange}, {func(p *api.Passage) { p.Sources[1].Seq = api.MaxNumber + 1 }, api.ErrRange}, {func(p *api.Passage) { p.Sources[1].Seq = api.MaxNumber }, api.OK},
		{func(p *api.Passage) { p.Sources[1].Seq = 0 }, api.ErrOrder}, {func(p *api.Passage) { p.Sources[1].Device = "cal" }, api.ErrOrder}, {func(p *api.Passage) { p.Sources[1] = api.Source{Device: "can"} }, api.OK}, {func(p *api.Passage) { p.Sources[1].Seq, p.ID = 0, "" }, api.ErrOrder}, {func(p *api.Passage) { p.ID = "cam.1" }, api.ErrName}, {func(p *api.Passage) { p.ID = "" }, api.ErrName},
	} {
		p := good()
		x.change(&p)
		if e := Check(p, n); e != x.e {
			t.Error(i, int(e))
		}
	}
	if e := Check(good(), api.Network{Points: []api.Point{{Name: "p", Kind: 9}}}); e != api.ErrPoint {
		t.Error("a network that is not valid", int(e))
	}
}

// P17.2
func TestID(t *testing.T) {
	for want, p := range map[string]api.Passage{"cam.7": {ID: "x", Sources: []api.Source{{Device: "cam", Seq: 7}, {Device: "a", Seq: 2}}}, "": {ID: "x"}, ".-9223372036854775808": {Sources: []api.Source{{Seq: math.MinInt}}}} {
		if s := ID(p); s != want {
			t.Error(p, s)
		}
	}
	for want, p := range map[string]api.Passage{"T": {Tag: "T", Plate: "P"}, "P": {Plate: "P"}, "": {ID: "x"}} {
		if s := Vehicle(p); s != want {
			t.Error(p, s)
		}
	}
}

func sign(n int) int { return max(-1, min(1, n)) }

func letter(n int) string { return string(rune('a' + n)) }

// random has few values, so that passages are often equal or differ in one field.
func random(r *rand.Rand) api.Passage {
	p := api.Passage{Time: r.Intn(2), Point: "p", ID: letter(r.Intn(2))}
	if r.Intn(2) == 0 {
		p.Tag = []string{"T", "U"}[r.Intn(2)]
	}
	if r.Intn(3) > 0 {
		p.Plate = []string{"AB", "CD", "EF"}[r.Intn(3)]
	}
	if r.Intn(2) == 0 {
		p.Sources = sources(r.Intn(3))
	}
	return p
}

func randomList(r *rand.Rand) []api.Passage {
	l := make([]api.Passage, r.Intn(9))
	for i := range l {
		l[i] = random(r)
	}
	return l
}

func key(p api.Passage) string {
	s := []string{strconv.Itoa(p.Time), p.Point, p.ID, p.Tag, p.Plate, strconv.Itoa(p.Class), strconv.Itoa(p.Score)}
	for _, x := range p.Sources {
		s = append(s, x.Device, strconv.Itoa(x.Seq))
	}
	return strings.Join(s, "|")
}

func keys(l []api.Passage) string {
	var s []string
	for _, p := range l {
		s = append(s, key(p))
	}
	return strings.Join(s, "\n")
}

// P17.3: each field decides, in its order
func TestOrder(t *testing.T) {
	change := []func(p *api.Passage, n int){
		func(p *api.Passage, n int) { p.Time = n }, func(p *api.Passage, n int) { p.Point = letter(n) }, func(p *api.Passage, n int) { p.ID = letter(n) }, func(p *api.Passage, n int) { p.Tag = letter(n) }, func(p *api.Passage, n int) { p.Plate = letter(n) }, func(p *api.Passage, n int) { p.Class = n }, func(p *api.Passage, n int) { p.Score = n },
		func(p *api.Passage, n int) { p.Sources = sources(n + 1) }, // a list precedes all longer lists that begin with it
	}
	r := rand.New(rand.NewSource(1))
	for range 3000 {
		var a, b api.Passage
		want := 0
		for _, f := range change {
			x, y := r.Intn(2), r.Intn(2)
			if r.Intn(3) > 0 {
				y = x
			}
			f(&a, x)
			f(&b, y)
			if want == 0 {
				want = sign(x - y)
			}
		}
		l := Sort([]api.Passage{b, a})
		if want < 0 && key(l[0]) != key(a) || want > 0 && key(l[0]) != key(b) || len(l) != 2 {
			t.Fatal(a, b, l)
		}
	}
	a, b := api.Passage{Sources: []api.Source{{Device: "a", Seq: 5}}}, api.Passage{Sources: []api.Source{{Device: "a", Seq: 4}, {Device: "z", Seq: 1}}}
	c := api.Passage{Sources: []api.Source{{Device: "b", Seq: 0}}}
	if l := Sort([]api.Passage{c, a, b}); key(l[0]) != key(b) || key(l[1]) != key(a) {
		t.Error(l)
	}
}

// P17.3, R5
func TestSort(t *testing.T) {
	l := []api.Passage{{Time: 2, Sources: sources(1)}, {Time: 1}, {Time: 2, Sources: sources(1)}}
	s := Sort(l)
	if len(s) != 3 || s[0].Time != 1 || s[1].Time != 2 || s[2].Time != 2 {
		t.Error(s)
	}
	s[1].Sources[0].Seq = 77
	if l[0].Time != 2 || l[0].Sources[0].Seq != 0 || l[2].Sources[0].Seq != 0 || s[2].Sources[0].Seq != 0 {
		t.Error("the result shares memory", l, s)
	}
	if s := Sort(nil); len(s) != 0 {
		t.Error(s)
	}
	// An empty list of sources is the same, whether it is nil or not.
	a, b := Diff([]api.Passage{{ID: "x"}}, []api.Passage{{ID: "x", Sources: []api.Source{}}})
	if len(a)+len(b) != 0 {
		t.Error(a, b)
	}
}

// P17.4, P17.7, P17.9
func TestDiff(t *testing.T) {
	r := rand.New(rand.NewSource(2))
	for range 2000 {
		a, b := randomList(r), randomList(r)
		for _, p := range a {
			if r.Intn(2) == 0 {
				b = append(b, p)
			}
		}
		gone, added := Diff(a, b)
		want := func(l, other []api.Passage) string {
			set := map[string]api.Passage{}
			for _, p := range l {
				if !slices.ContainsFunc(other, func(q api.Passage) bool { return key(p) == key(q) }) {
					set[key(p)] = p
				}
			}
			var r []api.Passage
			for _, p := range set {
				r = append(r, p)
			}
			return keys(Sort(r))
		}
		if keys(gone) != want(a, b) || keys(added) != want(b, a) {
			t.Fatal(a, b, gone, added)
		}
		x, y := Diff(append(slices.Clone(a), a...), b)
		if keys(x) != keys(gone) || keys(y) != keys(added) {
			t.Fatal("a repetition matters", a, b)
		}
		if x, y := Diff(a, a); len(x)+len(y) != 0 {
			t.Fatal(a, x, y)
		}
	}
}

// P17.5, P17.6: the examples
func TestBelonging(t *testing.T) {
	p1, p2, p3, p4 := api.Passage{ID: "1", Time: 9, Tag: "T", Plate: "AB1"}, api.Passage{ID: "2", Time: 5, Plate: "AB1"}, api.Passage{ID: "3", Tag: "U"}, api.Passage{ID: "4", Plate: "CD2"}
	l := []api.Passage{p1, p2, p3, p4, {ID: "5"}}
	if v := Vehicles(l); !slices.Equal(v, []string{"CD2", "T", "U"}) {
		t.Error(v)
	}
	ids := func(l []api.Passage) string {
		s := ""
		for _, p := range l {
			s += p.ID
		}
		return s
	}
	for v, want := range map[string]string{"T": "21", "AB1": "", "CD2": "4", "U": "3", "": "", "X": ""} {
		if s := ids(Of(l, v)); s != want {
			t.Error(v, s)
		}
	}
	p3.Plate = "AB1"
	l[2] = p3
	for v, want := range map[string]string{"T": "1", "AB1": "2", "CD2": "4", "U": "3"} {
		if s := ids(Of(l, v)); s != want {
			t.Error(v, s)
		}
	}
	if v := Vehicles(l); !slices.Equal(v, []string{"AB1", "CD2", "T", "U"}) {
		t.Error(v)
	}
	l = append(l, p1, p2)
	if s := ids(Of(l, "T")) + " " + ids(Of(l, "AB1")); s != "11 22" {
		t.Error("equal passages are combined", s)
	}
	if v := Vehicles(nil); len(v) != 0 {
		t.Error(v)
	}
}

// P17.5 to P17.8
func TestBelongingOnce(t *testing.T) {
	r := rand.New(rand.NewSource(3))
	for range 2000 {
		l := randomList(r)
		vs := Vehicles(l)
		if !slices.IsSorted(vs) || len(slices.Compact(slices.Clone(vs))) != len(vs) {
			t.Fatal(vs)
		}
		var all []api.Passage
		for _, v := range vs {
			of := Of(l, v)
			if len(of) == 0 || keys(of) != keys(Sort(of)) {
				t.Fatal(v, of)
			}
			all = append(all, of...)
			for _, p := range of {
				if p.Tag != "" && p.Tag != v {
					t.Fatal(v, p)
				}
				if p.Tag == "" {
					tags := map[string]bool{}
					for _, q := range l {
						if q.Plate == p.Plate && q.Tag != "" {
							tags[q.Tag] = true
						}
					}
					if (len(tags) == 1) != tags[v] || len(tags) != 1 && v != p.Plate {
						t.Fatal(v, p, tags)
					}
				}
			}
		}
		var want []api.Passage
		for _, p := range l {
			if p.Tag != "" || p.Plate != "" {
				want = append(want, p)
			}
		}
		if keys(Sort(all)) != keys(Sort(want)) {
			t.Fatal("not exactly one vehicle", l, vs)
		}
		r.Shuffle(len(l), func(i, j int) { l[i], l[j] = l[j], l[i] })
		if !reflect.DeepEqual(Vehicles(l), vs) {
			t.Fatal("the order matters")
		}
	}
}
