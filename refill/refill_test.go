package refill

import (
	"math"
	"math/rand"
	"slices"
	"testing"

	"tollway/api"
)

func rule(below, cents, tries, wait int) api.Refill {
	return api.Refill{Below: below, Cents: cents, Tries: tries, Wait: wait}
}

func state(n, failed, next int) api.Filling {
	return api.Filling{State: n, Failed: failed, Next: next}
}

// P35.1
func TestCheck(t *testing.T) {
	most := api.MaxMoney
	for _, x := range []struct {
		r api.Refill
		e api.Errno
	}{
		{api.Refill{}, api.OK}, {rule(0, 1, 1, 0), api.OK}, {rule(most, most, 16, api.MaxTime-1), api.OK}, {rule(most+1, 0, 0, -1), api.ErrMoney}, {rule(-most-1, 1, 1, 0), api.ErrMoney}, {rule(0, most+1, 0, 0), api.ErrMoney}, {rule(0, -most-1, 1, 0), api.ErrMoney},
		{rule(-1, 1, 1, 0), api.ErrArg}, {rule(0, 0, 1, 0), api.ErrArg}, {rule(5, 0, 0, 0), api.ErrArg}, {rule(0, 1, 0, 0), api.ErrArg}, {rule(0, 1, 17, 0), api.ErrArg}, {rule(0, 1, 1, -1), api.ErrArg}, {rule(0, 1, 1, api.MaxTime), api.ErrArg}, {rule(0, 0, 0, 5), api.ErrArg},
	} {
		if e := Check(x.r); e != x.e {
			t.Error(x, int(e))
		}
		if x.e != api.OK {
			if l, f, e := Run(x.r, most+1, make([]int, 1025), nil); len(l) != 0 || f != (api.Filling{}) || e != x.e {
				t.Error("Run", x, l, f, int(e))
			}
		}
	}
}

// P35.2
func TestStep(t *testing.T) {
	r := rule(500, 1000, 2, 3)
	for i, x := range []struct {
		r          api.Refill
		f          api.Filling
		balance, t int
		want       api.Filling
		cents      int
	}{
		{r, state(1, 0, 0), 499, 0, state(2, 0, 0), 1000}, {r, state(1, 0, 0), 500, 0, state(1, 0, 0), 0}, {r, state(1, 1, 10), 499, 9, state(1, 1, 10), 0}, {r, state(1, 1, 10), 499, 10, state(2, 1, 10), 1000}, {r, state(2, 1, 10), 499, 10, state(2, 1, 10), 0}, {r, state(3, 2, 0), 499, 10, state(3, 2, 0), 0}, {r, state(0, 0, 0), 499, 10, state(0, 0, 0), 0}, {r, state(4, 0, 0), 499, 10, state(4, 0, 0), 0},
		{api.Refill{}, state(1, 0, 0), -5, 0, state(1, 0, 0), 0}, {rule(500, -5, 1, 1), state(1, 0, 0), 0, 0, state(1, 0, 0), 0}, {r, state(1, 0, 0), math.MinInt, math.MaxInt, state(2, 0, 0), 1000}, {r, state(1, 0, math.MinInt), 0, math.MinInt, state(2, 0, math.MinInt), 1000},
	} {
		if f, n := Step(x.r, x.f, x.balance, x.t); f != x.want || n != x.cents {
			t.Error(i, f, n)
		}
	}
}

// P35.3, P35.4
func TestResults(t *testing.T) {
	r := rule(500, 1000, 2, 3)
	for n := range 5 {
		f := state(n, 1, 9)
		s, e := Success(r, f)
		if n == 2 && (s != state(1, 0, 0) || e != api.OK) || n != 2 && (s != f || e != api.ErrState) {
			t.Error(n, s, int(e))
		}
		s, e = Failure(r, f, 7)
		if n == 2 && (s != state(3, 2, 0) || e != api.OK) || n != 2 && (s != f || e != api.ErrState) {
			t.Error(n, s, int(e))
		}
		s, e = Failure(r, f, -1)
		if n == 2 && (s != f || e != api.ErrTime) || n != 2 && (s != f || e != api.ErrState) {
			t.Error(n, s, int(e))
		}
		s, e = Resume(f)
		if n == 3 && (s != state(1, 0, 0) || e != api.OK) || n != 3 && (s != f || e != api.ErrState) {
			t.Error(n, s, int(e))
		}
	}
	if s, e := Failure(r, state(2, 0, 5), 7); s != state(1, 1, 10) || e != api.OK {
		t.Error(s, int(e))
	}
	if s, e := Failure(r, state(2, 0, 5), api.MaxTime); s != state(2, 0, 5) || e != api.ErrTime {
		t.Error(s, int(e))
	}
	if s, e := Failure(rule(1, 1, 16, api.MaxTime-1), state(2, 14, 5), api.MaxTime-1); s != state(1, 15, 2*api.MaxTime-2) || e != api.OK {
		t.Error(s, int(e))
	}
}

// P35.5
func TestRun(t *testing.T) {
	r := rule(500, 1000, 2, 3)
	most := api.MaxMoney
	for i, x := range []struct {
		r       api.Refill
		balance int
		moves   []int
		ok      []bool
		want    []int
		f       api.Filling
		e       api.Errno
	}{
		{r, 600, []int{-200, -100, -100}, []bool{true}, []int{1400, 1300, 1200}, state(1, 0, 0), api.OK}, {r, 600, []int{-200, 0, 0, 0, 0}, nil, []int{400, 400, 400, 400, 400}, state(3, 2, 0), api.OK}, {r, 600, []int{-200, 0, 0, 0, 0}, []bool{false, true}, []int{400, 400, 400, 1400, 1400}, state(1, 0, 0), api.OK}, {r, 600, []int{-200, 0}, []bool{false}, []int{400, 400}, state(1, 1, 3), api.OK}, {r, 5, nil, nil, nil, state(1, 0, 0), api.OK}, {api.Refill{}, 5, []int{-9}, []bool{true}, []int{-4}, state(1, 0, 0), api.OK}, {r, 0, []int{0, -2000, 0}, []bool{true, true, true}, []int{1000, 0, 1000}, state(1, 0, 0), api.OK},
		{r, most + 1, make([]int, 1025), nil, nil, api.Filling{}, api.ErrLimit}, {r, most + 1, nil, nil, nil, api.Filling{}, api.ErrMoney}, {r, most, []int{1}, nil, nil, api.Filling{}, api.ErrMoney}, {r, 0, []int{5, math.MinInt}, nil, nil, api.Filling{}, api.ErrMoney}, {r, most, []int{-most - 1, most}, nil, nil, api.Filling{}, api.ErrMoney}, {rule(most, 10, 1, 0), most - 5, []int{0}, []bool{true}, nil, api.Filling{}, api.ErrMoney}, {rule(most, 10, 1, 0), most - 5, []int{0}, nil, []int{most - 5}, state(3, 1, 0), api.OK},
	} {
		if l, f, e := Run(x.r, x.balance, x.moves, x.ok); !slices.Equal(l, x.want) || f != x.f || e != x.e {
			t.Error(i, l, f, int(e))
		}
	}
	if l, _, e := Run(r, 500, make([]int, api.MaxList), nil); len(l) != api.MaxList || e != api.OK {
		t.Error(len(l), int(e))
	}
}

// P35.6 to P35.8
func TestConsequences(t *testing.T) {
	rnd := rand.New(rand.NewSource(1))
	for range 1000 {
		r := rule(rnd.Intn(500), 1+rnd.Intn(300), 1+rnd.Intn(4), rnd.Intn(5))
		moves, ok := make([]int, 1+rnd.Intn(30)), make([]bool, rnd.Intn(20))
		for i := range moves {
			moves[i] = rnd.Intn(400) - 300
		}
		for i := range ok {
			ok[i] = rnd.Intn(2) == 0
		}
		first := rnd.Intn(1000)
		// A slow model: the requests are made one by one.
		requests := func(ok []bool) (times []int, added int) {
			f, balance := state(1, 0, 0), first
			for i, m := range moves {
				balance += m
				var cents int
				if f, cents = Step(r, f, balance, i); cents > 0 {
					if k := len(times); k < len(ok) && ok[k] {
						f, _ = Success(r, f)
						balance += cents
						added += cents
					} else {
						f, _ = Failure(r, f, i)
					}
					times = append(times, i)
				}
			}
			return times, added
		}
		_, added := requests(ok)
		l, _, e := Run(r, first, moves, ok)
		sum := first + added
		for _, m := range moves {
			sum += m
		}
		if e != api.OK || l[len(l)-1] != sum {
			t.Fatal(r, first, moves, ok, l, sum)
		}
		times, _ := requests(nil)
		_, f, _ := Run(r, first, moves, nil)
		if len(times) > r.Tries || (len(times) == r.Tries) != (f.State == 3) {
			t.Fatal(r, times, f)
		}
		for i := 1; i < len(times); i++ {
			if times[i]-times[i-1] < r.Wait {
				t.Fatal(r, times)
			}
		}
		for i := range moves {
			moves[i] = max(moves[i], -r.Cents)
		}
		l, _, _ = Run(r, first, moves, slices.Repeat([]bool{true}, len(moves)))
		for _, n := range l {
			if n < r.Below && n < first {
				t.Fatal(r, first, moves, l)
			}
		}
	}
}
