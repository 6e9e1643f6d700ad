package class

import (
	"math"
	"math/rand"
	"testing"

	"tollway/api"
)

func rules(l ...[3]int) []api.ClassRule {
	var r []api.ClassRule
	for _, x := range l {
		r = append(r, api.ClassRule{From: x[0], To: x[1], Class: x[2]})
	}
	return r
}

// P12.1
func TestCheck(t *testing.T) {
	nine := rules([3]int{1, 1, 9}, [3]int{2, 2, 8}, [3]int{3, 3, 7}, [3]int{4, 4, 6}, [3]int{5, 5, 5}, [3]int{6, 6, 4}, [3]int{7, 7, 3}, [3]int{8, 8, 2}, [3]int{9, 20, 1})
	for _, x := range []struct {
		l []api.ClassRule
		e api.Errno
	}{
		{nil, api.OK}, {nine, api.OK}, {append(nine, api.ClassRule{}), api.ErrLimit}, {rules([3]int{1, 2, 1}, [3]int{3, 3, 2}, [3]int{5, 20, 4}), api.OK},
		{rules([3]int{0, 2, 0}), api.ErrArg}, {rules([3]int{3, 2, 1}), api.ErrArg}, {rules([3]int{1, 21, 1}), api.ErrArg}, {rules([3]int{math.MinInt, math.MaxInt, 1}), api.ErrArg}, {rules([3]int{20, 20, 0}), api.ErrClass}, {rules([3]int{1, 2, 10}), api.ErrClass}, {rules([3]int{1, 2, math.MinInt}), api.ErrClass},
		{rules([3]int{1, 2, 1}, [3]int{2, 3, 2}), api.ErrOrder}, {rules([3]int{1, 2, 1}, [3]int{2, 3, 1}), api.ErrOrder}, {rules([3]int{1, 2, 1}, [3]int{3, 4, 1}), api.ErrExists}, {rules([3]int{1, 2, 1}, [3]int{2, 3, 10}), api.ErrClass}, {rules([3]int{1, 2, 1}, [3]int{2, 1, 1}), api.ErrArg},
	} {
		if e := Check(x.l); e != x.e {
			t.Error(x, int(e))
		}
	}
}

// P12.2
func TestOf(t *testing.T) {
	l := rules([3]int{1, 2, 1}, [3]int{3, 3, 2}, [3]int{5, 20, 4})
	for axles, want := range map[int]int{1: 1, 2: 1, 3: 2, 5: 4, 20: 4} {
		if n, e := Of(l, axles); n != want || e != api.OK {
			t.Error(axles, n, int(e))
		}
	}
	for _, axles := range []int{0, 4, 21, -1, math.MinInt, math.MaxInt} {
		if n, e := Of(l, axles); n != 0 || e != api.ErrClass {
			t.Error(axles, n, int(e))
		}
	}
	if a, b, ok := Range(l, 4); a != 5 || b != 20 || !ok {
		t.Error(a, b, ok)
	}
	for _, class := range []int{3, 0, -1, 99} {
		if a, b, ok := Range(l, class); a != 0 || b != 0 || ok {
			t.Error(class, a, b, ok)
		}
	}
	// Any rules are accepted; the first one counts.
	odd := rules([3]int{1, 9, 70}, [3]int{-5, 9, -3}, [3]int{9, 1, 70})
	if n, e := Of(odd, 1); n != 70 || e != api.OK {
		t.Error(n, int(e))
	}
	if n, e := Of(odd, 0); n != -3 || e != api.OK {
		t.Error(n, int(e))
	}
	if a, b, ok := Range(odd, 70); a != 1 || b != 9 || !ok {
		t.Error(a, b, ok)
	}
}

// P12.3
func TestReconcile(t *testing.T) {
	for _, x := range []struct {
		declared, measured, want int
		sure                     bool
	}{
		{2, 3, 3, false}, {2, 2, 2, true}, {0, 3, 3, true}, {10, 9, 9, true}, {2, 0, 2, false}, {0, 10, 0, false}, {9, 10, 9, false}, {0, 0, 0, false}, {10, 10, 0, false}, {-1, 1, 1, true}, {math.MaxInt, math.MinInt, 0, false},
	} {
		if n, sure := Reconcile(x.declared, x.measured); n != x.want || sure != x.sure {
			t.Error(x, n, sure)
		}
	}
}

// P12.4, P12.6
func TestMajority(t *testing.T) {
	for _, x := range []struct {
		l    []int
		want int
	}{{[]int{2, 3, 3, 2, 0}, 2}, {[]int{3, 2, 3}, 3}, {[]int{0, 11}, 0}, {nil, 0}, {[]int{9}, 9}, {[]int{10, 10, 1}, 1}, {[]int{-1, 0, 0, 9, math.MinInt, math.MaxInt}, 9}} {
		if n := Majority(x.l); n != x.want {
			t.Error(x, n)
		}
	}
	r := rand.New(rand.NewSource(1))
	for range 1000 {
		l := make([]int, r.Intn(12))
		count := map[int]int{}
		for i := range l {
			l[i] = r.Intn(12) - 1
			count[l[i]]++
		}
		n := Majority(l)
		for class := 1; class <= 9; class++ {
			if count[class] > count[n] || class < n && count[class] == count[n] || n == 0 && count[class] > 0 {
				t.Fatal(l, n)
			}
		}
		r.Shuffle(len(l), func(i, j int) { l[i], l[j] = l[j], l[i] })
		if Majority(l) != n {
			t.Fatal("the order matters", l)
		}
	}
}

// P12.5
func TestPartition(t *testing.T) {
	r := rand.New(rand.NewSource(2))
	for range 3000 {
		l := make([]api.ClassRule, r.Intn(5))
		for i := range l {
			from := 1 + r.Intn(20)
			l[i] = api.ClassRule{From: from, To: from + r.Intn(4), Class: 1 + r.Intn(9)}
		}
		if Check(l) != api.OK {
			continue
		}
		for axles := range 23 {
			n, e := Of(l, axles)
			found := 0
			for class := 1; class <= 9; class++ {
				if a, b, ok := Range(l, class); ok && a <= axles && axles <= b {
					found++
					if class != n || e != api.OK {
						t.Fatal(l, axles, class, n)
					}
				}
			}
			if found > 1 || (found == 1) != (e == api.OK) {
				t.Fatal(l, axles, found, n)
			}
		}
	}
}
