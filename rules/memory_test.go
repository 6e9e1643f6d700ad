package rules

import (
	"math"
	"math/rand"
	"reflect"
	"strings"
	"testing"
	"time"

	"tollway/api"
	"tollway/engine"
	"tollway/sample"
)

// maker makes arguments: values of the samples, random values, and extreme ones.
type maker struct {
	*rand.Rand
	states []api.State
}

func (m maker) string() string {
	l := []string{"", "a", "b", "zone", "ring", "tube", "open", "in", "mid", "out", "topen", "copen", "lopen", "AB12", "A812", "CD34", "ab-12", "XY99", sample.Tag(1), sample.Tag(2), "ann", "bob", "north", "k", "t:topen.1", "v1", "a b", "%", "\xff\x00", "5", "-7", "1.20", "close 5", "pay ann 5", "file a b 1\nend 0 0.00\n", "agency a\nask total\n", "x%20", "éé", "reason"}
	return l[m.Intn(len(l))]
}

func (m maker) int() int {
	l := []int{-1, 0, 0, 1, 1, 2, 3, 4, 5, 7, 60, 100, 900, 1000, 1440, 3600, 28800, 86400, 90000, api.MaxDay - 1, api.MaxDay, api.MaxTime - 1, api.MaxTime, api.MaxTime + 1, api.MaxNumber, api.MaxNumber + 1, api.MaxMoney, -api.MaxMoney, api.MaxMoney + 1, math.MaxInt, math.MinInt, math.MaxInt - 1}
	if m.Intn(3) > 0 {
		return m.Intn(9)
	}
	return l[m.Intn(len(l))]
}

// make fills a value; lists get more capacity than length, also filled.
func (m maker) fill(v reflect.Value, depth int) {
	if m.samples(v) {
		return
	}
	switch v.Kind() {
	case reflect.Struct:
		for i := range v.NumField() {
			if m.Intn(8) > 0 {
				m.fill(v.Field(i), depth+1)
			}
		}
	case reflect.Slice:
		n := m.Intn(4)
		if depth > 4 {
			n = m.Intn(2)
		}
		l := reflect.MakeSlice(v.Type(), n+2, n+2)
		for i := range n + 2 {
			m.fill(l.Index(i), depth+1)
		}
		v.Set(l.Slice(0, n))
	case reflect.String:
		v.SetString(m.string())
	case reflect.Bool:
		v.SetBool(m.Intn(2) == 0)
	case reflect.Uint64, reflect.Uint8:
		v.SetUint(uint64(m.Intn(256)))
	case reflect.Int:
		v.SetInt(int64(m.int()))
	default:
		panic(v.Kind().String())
	}
}

// samples sets some values from the samples.
func (m maker) samples(v reflect.Value) bool {
	if m.Intn(3) == 0 {
		return false
	}
	s := m.states[m.Intn(len(m.states))]
	for _, x := range []any{s, s.Config, s.Config.Top, s.Config.Top.Net, s.Config.Zones, s.Config.Accounts, s.Config.Devices, s.Config.Law, s.Config.Scale, s.Result, s.Books, s.Books.Ledger, s.Seen, s.Rejects, s.Parked, s.Result.Passages, s.Result.Trips, s.Result.Charges, s.Result.Stays, s.Cases, sample.Event(m.Intn)} {
		if reflect.TypeOf(x) == v.Type() {
			v.Set(roomy(reflect.ValueOf(x)))
			return true
		}
	}
	return false
}

// roomy copies a value; lists get more capacity than length.
func roomy(v reflect.Value) reflect.Value {
	r := reflect.New(v.Type()).Elem()
	switch v.Kind() {
	case reflect.Struct:
		for i := range v.NumField() {
			r.Field(i).Set(roomy(v.Field(i)))
		}
	case reflect.Slice:
		l := reflect.MakeSlice(v.Type(), v.Len()+2, v.Len()+2)
		for i := range v.Len() {
			l.Index(i).Set(roomy(v.Index(i)))
		}
		r.Set(l.Slice(0, v.Len()))
	default:
		r.Set(v)
	}
	return r
}

// whole copies a value with the elements behind its lists.
func whole(v reflect.Value) reflect.Value {
	r := reflect.New(v.Type()).Elem()
	switch v.Kind() {
	case reflect.Struct:
		for i := range v.NumField() {
			r.Field(i).Set(whole(v.Field(i)))
		}
	case reflect.Slice:
		all := v.Slice(0, v.Cap())
		l := reflect.MakeSlice(v.Type(), v.Cap(), v.Cap())
		for i := range v.Cap() {
			l.Index(i).Set(whole(all.Index(i)))
		}
		r.Set(l.Slice(0, v.Len()))
	default:
		r.Set(v)
	}
	return r
}

// equal compares values; lists may be nil or empty. If behind is true, the elements behind lists count too.
func equal(a, b reflect.Value, behind bool) bool {
	switch a.Kind() {
	case reflect.Struct:
		for i := range a.NumField() {
			if !equal(a.Field(i), b.Field(i), behind) {
				return false
			}
		}
		return true
	case reflect.Slice:
		if a.Len() != b.Len() || behind && a.Cap() != b.Cap() {
			return false
		}
		if behind {
			a, b = a.Slice(0, a.Cap()), b.Slice(0, b.Cap())
		}
		for i := range a.Len() {
			if !equal(a.Index(i), b.Index(i), behind) {
				return false
			}
		}
		return true
	}
	return a.Interface() == b.Interface()
}

// memory is where a list lies.
type memory struct{ from, to uintptr }

// lists collects the memory of all lists of a value.
func lists(v reflect.Value, l []memory) []memory {
	switch v.Kind() {
	case reflect.Struct:
		for i := range v.NumField() {
			l = lists(v.Field(i), l)
		}
	case reflect.Slice:
		if size := uintptr(v.Cap()) * v.Type().Elem().Size(); size > 0 {
			l = append(l, memory{v.Pointer(), v.Pointer() + size})
		}
		for i := range v.Len() {
			l = lists(v.Index(i), l)
		}
	}
	return l
}

func overlap(a, b memory) bool { return a.from < b.to && b.from < a.to }

// call calls a function with arguments, and reports a panic.
func call(f reflect.Value, args []reflect.Value) (out []reflect.Value, failure any) {
	defer func() { failure = recover() }()
	return f.Call(args), nil
}

// try calls a function twice, and examines what the document's rules R1, R3, R5 and R6 say.
func (m maker) try(t *testing.T, x function) bool {
	f := reflect.ValueOf(x.f)
	var args, before []reflect.Value
	for i := range f.Type().NumIn() {
		v := reflect.New(f.Type().In(i)).Elem()
		m.fill(v, 0)
		args = append(args, v)
		before = append(before, whole(v))
	}
	start := time.Now()
	out, failure := call(f, args)
	if failure != nil {
		t.Error(x.name, "panics:", failure, before)
		return false
	}
	if d := time.Since(start); d > 3*time.Second {
		t.Error(x.name, "takes", d, before)
		return false
	}
	for i := range args {
		if !equal(args[i], before[i], true) {
			t.Error(x.name, "changes its argument", i, before[i])
			return false
		}
	}
	if again, _ := call(f, before); true {
		for i := range out {
			if !equal(out[i], again[i], false) {
				t.Error(x.name, "has two results", out[i], again[i])
				return false
			}
		}
	}
	return m.apart(t, x, args, out) && m.zero(t, x, args, out)
}

// kept has the functions of which another result than the first one stays, or a state that is not the first parameter, as their chapters say.
const kept = " post.Apply post.Void post.Sync refill.Success refill.Failure recon.Round recon.Reconcile class.Reconcile agency.Parse scenario.Conf scenario.Check "

// zero examines what the document's rule R3 says: with an error, or if nothing was found, the results are zero, but a state is returned unchanged.
func (m maker) zero(t *testing.T, x function, args, out []reflect.Value) bool {
	last := out[len(out)-1]
	_, isError := last.Interface().(api.Errno)
	missing := last.Kind() == reflect.Bool && !last.Bool() || isError && last.Int() != 0
	if len(out) == 1 || !missing || strings.Contains(kept, " "+x.name+" ") {
		return true
	}
	for i, v := range out[:len(out)-1] {
		want := reflect.New(v.Type()).Elem()
		k := v.Kind()
		state := x.name != "digest.Proof" // its list is no state, though the types are the same
		if state && isError && i == 0 && args[0].Type() == v.Type() && (k == reflect.Struct || k == reflect.Slice && v.Type().Elem().Kind() != reflect.Uint8) {
			want = args[0]
		}
		if !equal(v, want, false) {
			t.Error(x.name, "returns with", last, "as result", i, v)
			return false
		}
	}
	return true
}

// apart examines the memory of a result.
func (m maker) apart(t *testing.T, x function, args, out []reflect.Value) bool {
	var own, given []memory
	for _, v := range args {
		given = lists(v, given)
	}
	for _, v := range out {
		unchanged := false // a state that is returned unchanged may be the argument itself
		for _, a := range args {
			unchanged = unchanged || a.Type() == v.Type() && equal(a, v, false)
		}
		if !unchanged {
			own = lists(v, own)
		}
	}
	for i, a := range own {
		for _, b := range given {
			if overlap(a, b) {
				t.Error(x.name, "shares memory with an argument", args, out)
				return false
			}
		}
		for _, b := range own[:i] {
			if overlap(a, b) {
				t.Error(x.name, "shares memory in its result", out)
				return false
			}
		}
	}
	return true
}

// R1, R3, R5, R6: every function, with many arguments
func TestFunctions(t *testing.T) {
	m := maker{Rand: rand.New(rand.NewSource(1))}
	for range 4 {
		s, e := engine.New(sample.Config())
		if e != api.OK {
			t.Fatal(int(e))
		}
		var es []api.Event
		for range 50 {
			es = append(es, sample.Event(m.Intn))
		}
		s, _ = engine.All(s, es)
		m.states = append(m.states, s)
	}
	for _, x := range functions() {
		failed := 0
		for range 100 {
			if !m.try(t, x) {
				if failed++; failed == 2 {
					break
				}
			}
		}
	}
}
