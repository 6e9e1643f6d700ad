package appeal

import (
	"math"
	"math/rand"
	"testing"

	"tollway/api"
	"tollway/notice"
)

func law() api.Law {
	return api.Law{Days: []int{5, 10, 10, 20}, Fees: []int{100, 200, 300, 1000}, Limit: 1000}
}

func fresh() api.Case {
	return api.Case{ID: "v1", Plate: "AB1", Key: "k", Stage: api.SNew, Owed: 500}
}

// noticed is the case on day 7.
func noticed() api.Case {
	x := fresh()
	x.Stage, x.Since, x.Owed = api.SNotice, 7, 600
	return x
}

// P39.1
func TestGround(t *testing.T) {
	for n, want := range map[int]string{0: "", 1: "driver", 2: "sold", 3: "stolen", 4: "paid", 5: "misread", 6: "", -1: "", math.MinInt: "", math.MaxInt: ""} {
		if s := Ground(n); s != want {
			t.Error(n, s)
		}
	}
	for n := -1; n < 5; n++ {
		if Pending(api.Case{Appeal: api.Appeal{State: n}}) != (n == 1) {
			t.Error(n)
		}
	}
}

// P39.2
func TestLast(t *testing.T) {
	for i, x := range []struct {
		change func(w *api.Law, x *api.Case)
		cal    []int
		day    int
		ok     bool
	}{
		{func(w *api.Law, x *api.Case) {}, nil, 20, true}, {func(w *api.Law, x *api.Case) { w.Days[1] = 20 }, nil, 21, true}, {func(w *api.Law, x *api.Case) { w.Days[1] = 3 }, nil, 9, true}, {func(w *api.Law, x *api.Case) { w.Days[1] = 20 }, []int{8, 9}, 23, true}, {func(w *api.Law, x *api.Case) { x.Stage = api.SPenalty }, nil, 21, true}, {func(w *api.Law, x *api.Case) { x.Stage = api.SRemind }, nil, 20, true},
		{func(w *api.Law, x *api.Case) { x.Stage = api.SNew }, nil, 0, false}, {func(w *api.Law, x *api.Case) { x.Stage = api.SCourt }, nil, 0, false}, {func(w *api.Law, x *api.Case) { x.Stage = api.SPaid }, nil, 0, false}, {func(w *api.Law, x *api.Case) { x.Appeal.State = 1 }, nil, 0, false}, {func(w *api.Law, x *api.Case) { x.Appeal.State = 3 }, nil, 0, false}, {func(w *api.Law, x *api.Case) { w.Limit = 0 }, nil, 0, false}, {func(w *api.Law, x *api.Case) { x.Since = -1 }, nil, 0, false}, {func(w *api.Law, x *api.Case) { x.Since, w.Days[1] = api.MaxDay-10, 5 }, nil, api.MaxDay - 4, true},
	} {
		w, c := law(), noticed()
		x.change(&w, &c)
		if day, ok := Last(w, x.cal, c); day != x.day || ok != x.ok {
			t.Error(i, day, ok)
		}
	}
}

// P39.3
func TestFile(t *testing.T) {
	for i, x := range []struct {
		change      func(w *api.Law, x *api.Case)
		ground, day int
		stage       int
		e           api.Errno
	}{
		{nil, 2, 20, api.SNotice, api.OK}, {nil, 2, 21, api.SRemind, api.OK}, {nil, 5, 7, api.SNotice, api.OK}, {nil, 1, 35, api.SPenalty, api.OK}, {nil, 2, 3, 0, api.ErrState}, {nil, 0, 20, 0, api.ErrArg}, {nil, 6, 20, 0, api.ErrArg}, {nil, 6, 3, 0, api.ErrArg}, {nil, 2, -1, 0, api.ErrTime}, {nil, 0, api.MaxDay, 0, api.ErrTime},
		{nil, 2, 63, 0, api.ErrLate}, {nil, 2, 4000, 0, api.ErrLate}, {func(w *api.Law, x *api.Case) { w.Limit = 20 }, 2, 100, 0, api.ErrCase}, {func(w *api.Law, x *api.Case) { x.Stage = api.SPaid }, 2, 20, 0, api.ErrCase}, {func(w *api.Law, x *api.Case) { x.Appeal.State = 1 }, 2, 20, 0, api.ErrState}, {func(w *api.Law, x *api.Case) { x.Appeal.State = 3 }, 2, 20, 0, api.ErrState}, {func(w *api.Law, x *api.Case) { w.Days = nil }, 0, -1, 0, api.ErrLimit}, {func(w *api.Law, x *api.Case) { x.Since = 50 }, 0, 20, 0, api.ErrOrder}, {func(w *api.Law, x *api.Case) { w.Days[1] = 20 }, 2, 21, api.SNotice, api.OK}, {func(w *api.Law, x *api.Case) { w.Days[1] = 20 }, 2, 22, 0, api.ErrLate},
	} {
		w, c := law(), fresh()
		if x.change != nil {
			x.change(&w, &c)
		}
		want, _ := notice.Advance(w, nil, c, x.day)
		want.Appeal = api.Appeal{State: 1, Ground: x.ground, Day: x.day}
		if x.e != api.OK {
			want = api.Case{}
		}
		if r, e := File(w, nil, c, x.ground, x.day); r != want || e != x.e || r.Stage != x.stage {
			t.Error(i, r, int(e))
		}
	}
}

// P39.4
func TestDecide(t *testing.T) {
	pending := func() api.Case {
		x := noticed()
		x.Appeal = api.Appeal{State: 1, Ground: 2, Day: 20}
		return x
	}
	x, e := Decide(law(), nil, pending(), false, 30)
	want := pending()
	want.Since, want.Paused, want.Appeal = 17, 10, api.Appeal{State: 3, Ground: 2, Day: 30}
	if x != want || e != api.OK {
		t.Error(x, int(e))
	}
	if due, ok := notice.Due(law(), nil, x); due != 31 || !ok {
		t.Error(due, ok)
	}
	x, e = Decide(law(), nil, pending(), true, 30)
	want = pending()
	want.Stage, want.Appeal = api.SWaived, api.Appeal{State: 2, Ground: 2, Day: 30}
	if x != want || e != api.OK {
		t.Error(x, int(e))
	}
	// The case is advanced after a denial: at once if the deadline has passed.
	late := pending()
	late.Appeal.Day = 21
	x, e = Decide(law(), nil, late, false, 31)
	if x.Stage != api.SRemind || x.Since != 31 || x.Owed != 800 || x.Paused != 10 || e != api.OK {
		t.Error(x, int(e))
	}
	for i, y := range []struct {
		change func(w *api.Law, x *api.Case)
		day    int
		e      api.Errno
		denied bool // only if the appeal is denied
	}{
		{func(w *api.Law, x *api.Case) { w.Fees, x.Stage = nil, 9 }, -1, api.ErrLimit, false}, {func(w *api.Law, x *api.Case) { x.Stage, x.Appeal.State = api.SPaid, 0 }, -1, api.ErrCase, false}, {func(w *api.Law, x *api.Case) { x.Appeal.State = 0 }, -1, api.ErrState, false}, {func(w *api.Law, x *api.Case) { x.Appeal.State = 2 }, -1, api.ErrState, false}, {func(w *api.Law, x *api.Case) { x.Since = 21 }, -1, api.ErrTime, false}, {func(w *api.Law, x *api.Case) {}, api.MaxDay, api.ErrTime, false}, {func(w *api.Law, x *api.Case) { x.Appeal.Day = -1 }, 30, api.ErrTime, false}, {func(w *api.Law, x *api.Case) { x.Begun = -1 }, 30, api.ErrTime, false}, {func(w *api.Law, x *api.Case) { x.Since = -1 }, 30, api.ErrTime, false}, {func(w *api.Law, x *api.Case) { x.Paused = -1 }, 30, api.ErrTime, false}, {func(w *api.Law, x *api.Case) { x.Paused = api.MaxDay + 1 }, 30, api.ErrTime, false},
		{func(w *api.Law, x *api.Case) { x.Since, x.Owed = 21, -1 }, 30, api.ErrOrder, false}, {func(w *api.Law, x *api.Case) {}, 19, api.ErrOrder, false}, {func(w *api.Law, x *api.Case) { x.Owed = -1 }, 30, api.ErrMoney, true},
	} {
		for _, upheld := range []bool{false, true} {
			w, c := law(), pending()
			y.change(&w, &c)
			r, e := Decide(w, nil, c, upheld, y.day)
			if y.denied && upheld {
				if e != api.OK {
					t.Error(i, int(e))
				}
			} else if r != (api.Case{}) || e != y.e {
				t.Error(i, upheld, r, int(e))
			}
		}
	}
	full := pending()
	full.Paused = api.MaxDay - 3
	if x, e := Decide(law(), nil, full, false, 30); x.Paused != api.MaxDay || e != api.OK {
		t.Error(x, int(e))
	}
	full.Paused = api.MaxDay
	if x, e := Decide(law(), nil, full, false, 30); x.Paused != api.MaxDay || e != api.OK {
		t.Error(x, int(e))
	}
	if x, e := Decide(law(), nil, pending(), false, 20); x.Paused != 0 || x.Since != 7 || e != api.OK {
		t.Error(x, int(e))
	}
}

// P39.5 to P39.7
func TestConsequences(t *testing.T) {
	r := rand.New(rand.NewSource(1))
	for range 2000 {
		w := api.Law{Limit: 10 + r.Intn(120)}
		for range 4 {
			w.Days = append(w.Days, 1+r.Intn(20))
			w.Fees = append(w.Fees, r.Intn(300))
		}
		cal := []int{r.Intn(60), r.Intn(60)}
		day := r.Intn(80)
		x, e := File(w, cal, fresh(), 1+r.Intn(5), day)
		advanced, _ := notice.Advance(w, cal, fresh(), day)
		last, ok := Last(w, cal, advanced)
		if (e == api.OK) != (ok && day <= last) {
			t.Fatal(w, day, int(e), last, ok)
		}
		if e != api.OK {
			continue
		}
		without := x
		without.Appeal = api.Appeal{}
		later := day + r.Intn(60)
		if y, _ := notice.Advance(w, cal, x, later); y != x || without != advanced {
			t.Fatal("it does not stop", x, y)
		}
		if _, ok := notice.Due(w, cal, x); ok {
			t.Fatal("it is due", x)
		}
		for _, upheld := range []bool{false, true} {
			y, e := Decide(w, cal, x, upheld, later)
			if e != api.OK {
				t.Fatal(int(e))
			}
			if _, ok := Last(w, cal, y); ok {
				t.Fatal("a second appeal", y)
			}
			if z, e := File(w, cal, y, 1, later); e == api.OK {
				t.Fatal("a second appeal", z)
			}
			if upheld {
				y.Stage, y.Appeal = x.Stage, x.Appeal
				if y != x {
					t.Fatal(y, x)
				}
			} else if y.Paused != x.Paused+later-day {
				t.Fatal(y, x)
			}
		}
	}
}
