package span

import (
	"math"
	"math/rand"
	"slices"
	"testing"

	"tollway/api"
)

type list = []api.Interval

// P5.1
func TestValid(t *testing.T) {
	for i, want := range map[api.Interval]bool{
		{From: 0, To: 1}: true, {From: 0, To: api.MaxTime}: true, {From: api.MaxTime - 1, To: api.MaxTime}: true,
		{From: 0, To: 0}: false, {From: 5, To: 5}: false, {From: 6, To: 5}: false, {From: -1, To: 5}: false, {From: 0, To: api.MaxTime + 1}: false, {From: math.MinInt, To: math.MaxInt}: false, {From: math.MaxInt, To: math.MinInt}: false,
	} {
		if Valid(i) != want {
			t.Error(i)
		}
	}
}

// P5.1
func TestNormal(t *testing.T) {
	for _, x := range []struct{ l, want list }{
		{nil, nil}, {list{{From: 5, To: 9}, {From: 1, To: 3}, {From: 3, To: 5}, {From: 7, To: 7}}, list{{From: 1, To: 9}}}, {list{{From: 1, To: 3}, {From: 4, To: 5}}, list{{From: 1, To: 3}, {From: 4, To: 5}}}, {list{{From: 4, To: 5}, {From: 1, To: 3}}, list{{From: 1, To: 3}, {From: 4, To: 5}}},
		{list{{From: 1, To: 9}, {From: 2, To: 3}, {From: 8, To: 10}}, list{{From: 1, To: 10}}}, {list{{From: -1, To: 9}, {From: 3, To: api.MaxTime + 1}, {From: 9, To: 3}, {From: 0, To: 2}}, list{{From: 0, To: 2}}}, {list{{From: 1, To: 2}, {From: 1, To: 5}, {From: 1, To: 3}}, list{{From: 1, To: 5}}}, {list{{From: 0, To: api.MaxTime}, {From: 5, To: 6}}, list{{From: 0, To: api.MaxTime}}},
	} {
		before := slices.Clone(x.l)
		if l := Normal(x.l); !slices.Equal(l, x.want) {
			t.Error(x, l)
		}
		if !slices.Equal(x.l, before) {
			t.Error("the argument is changed", before, x.l)
		}
	}
}

// P5.2
func TestAlgebraExamples(t *testing.T) {
	all := list{{From: 0, To: api.MaxTime}}
	for _, x := range []struct{ a, b, union, meet, minus list }{
		{list{{From: 1, To: 3}}, list{{From: 4, To: 5}}, list{{From: 1, To: 3}, {From: 4, To: 5}}, nil, list{{From: 1, To: 3}}},
		{list{{From: 1, To: 5}}, list{{From: 4, To: 9}}, list{{From: 1, To: 9}}, list{{From: 4, To: 5}}, list{{From: 1, To: 4}}},
		{list{{From: 1, To: 9}}, list{{From: 3, To: 4}}, list{{From: 1, To: 9}}, list{{From: 3, To: 4}}, list{{From: 1, To: 3}, {From: 4, To: 9}}},
		{list{{From: 1, To: 3}}, list{{From: 3, To: 5}}, list{{From: 1, To: 5}}, nil, list{{From: 1, To: 3}}},
		{all, nil, all, nil, all}, {nil, all, all, nil, nil}, {all, all, all, all, nil}, {nil, nil, nil, nil, nil},
		{all, list{{From: 0, To: 1}, {From: api.MaxTime - 1, To: api.MaxTime}}, all, list{{From: 0, To: 1}, {From: api.MaxTime - 1, To: api.MaxTime}}, list{{From: 1, To: api.MaxTime - 1}}},
		{list{{From: 9, To: 1}, {From: -5, To: 5}}, list{{From: 2, To: 2}}, nil, nil, nil}, {list{{From: 1, To: 4}, {From: 2, To: 6}}, list{{From: 9, To: 1}}, list{{From: 1, To: 6}}, nil, list{{From: 1, To: 6}}},
	} {
		if u, m, d := Union(x.a, x.b), Meet(x.a, x.b), Minus(x.a, x.b); !slices.Equal(u, x.union) || !slices.Equal(m, x.meet) || !slices.Equal(d, x.minus) {
			t.Error(x, u, m, d)
		}
	}
}

const size = 24

func random(r *rand.Rand) list {
	l := make(list, r.Intn(6))
	for i := range l {
		from := r.Intn(size+2) - 1
		l[i] = api.Interval{From: from, To: from + r.Intn(8) - 1}
	}
	return l
}

// set is a slow model: which of the first seconds are in the list.
func set(l list) (s [2 * size]bool) {
	for _, i := range l {
		if i.From >= 0 {
			for k := i.From; k < i.To; k++ {
				s[k] = true
			}
		}
	}
	return s
}

func normal(l list) bool {
	for k, i := range l {
		if i.From < 0 || i.From >= i.To || k > 0 && l[k-1].To >= i.From {
			return false
		}
	}
	return true
}

// P5.2 to P5.7
func TestAlgebra(t *testing.T) {
	r := rand.New(rand.NewSource(1))
	for range 5000 {
		a, b := random(r), random(r)
		sa, sb := set(a), set(b)
		u, m, d := Union(a, b), Meet(a, b), Minus(a, b)
		su, sm, sd := set(u), set(m), set(d)
		n := 0
		for k := range sa {
			if su[k] != (sa[k] || sb[k]) || sm[k] != (sa[k] && sb[k]) || sd[k] != (sa[k] && !sb[k]) || Has(a, k) != sa[k] {
				t.Fatal(a, b, u, m, d, k)
			}
			if sa[k] {
				n++
			}
		}
		if !normal(u) || !normal(m) || !normal(d) || !normal(Normal(a)) || Length(a) != n {
			t.Fatal("no normal form or a wrong length", a, b, u, m, d, Length(a))
		}
		if Length(a)+Length(b) != Length(u)+Length(m) || Length(Meet(d, m)) != 0 || !slices.Equal(Union(d, m), Normal(a)) {
			t.Fatal("algebra", a, b)
		}
		twice := append(slices.Clone(a), a...)
		r.Shuffle(len(twice), func(i, j int) { twice[i], twice[j] = twice[j], twice[i] })
		if !slices.Equal(Union(twice, b), u) || !slices.Equal(Meet(twice, b), m) || !slices.Equal(Minus(twice, b), d) || Length(twice) != n {
			t.Fatal("the order matters", a, b)
		}
		from := r.Intn(size)
		i := api.Interval{From: from, To: from + 1 + r.Intn(6)}
		all := true
		for k := i.From; k < i.To; k++ {
			all = all && sa[k]
		}
		if Covers(a, i) != all || all != (len(Minus(list{i}, a)) == 0) {
			t.Fatal(a, i)
		}
	}
}

// P5.3, P5.4
func TestQuestions(t *testing.T) {
	if n := Length(list{{From: 1, To: 3}, {From: 2, To: 5}}); n != 4 {
		t.Error(n)
	}
	if n := Length(list{{From: 0, To: api.MaxTime}, {From: 4, To: 2}, {From: -1, To: 2}}); n != api.MaxTime {
		t.Error(n)
	}
	for at, want := range map[int]bool{0: false, 1: true, 2: true, 3: false, -1: false, math.MinInt: false, math.MaxInt: false} {
		if Has(list{{From: 1, To: 3}}, at) != want {
			t.Error(at)
		}
	}
	if Has(list{{From: -5, To: 9}, {From: 8, To: api.MaxTime + 1}}, 8) {
		t.Error("an invalid interval has a second")
	}
	for _, x := range []struct {
		l    list
		i    api.Interval
		want bool
	}{
		{list{{From: 1, To: 3}, {From: 3, To: 6}}, api.Interval{From: 2, To: 5}, true}, {list{{From: 1, To: 3}}, api.Interval{From: 2, To: 2}, false}, {list{{From: 1, To: 3}}, api.Interval{From: 1, To: 3}, true}, {list{{From: 1, To: 3}}, api.Interval{From: 1, To: 4}, false}, {list{{From: 1, To: 3}}, api.Interval{From: 0, To: 3}, false}, {list{{From: 1, To: 3}, {From: 4, To: 6}}, api.Interval{From: 1, To: 6}, false}, {nil, api.Interval{From: 1, To: 6}, false}, {nil, api.Interval{}, false}, {list{{From: 0, To: api.MaxTime}}, api.Interval{From: 0, To: api.MaxTime + 1}, false},
	} {
		if Covers(x.l, x.i) != x.want {
			t.Error(x)
		}
	}
}
