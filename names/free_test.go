package names_test

import (
	"math"
	"math/rand/v2"
	"slices"
	"testing"

	"plimsoll/api"
	"plimsoll/names"
)

// free is n places that are free.
func free(t *testing.T, n int) *names.Free {
	t.Helper()
	f, err := names.NewFree(n)
	if f == nil || err != api.OK {
		t.Fatalf("NewFree(%d) is %v, %d", n, f, err)
	}
	return f
}

// takes ends a test, if Take does not tell these places, one by one.
func takes(t *testing.T, f *names.Free, want ...int) {
	t.Helper()
	for _, place := range want {
		if got, there := f.Take(); got != place || !there {
			t.Fatalf("Take is %d, %v, not %d", got, there, place)
		}
	}
}

// takesNone ends a test, if there is a place that is free.
func takesNone(t *testing.T, f *names.Free) {
	t.Helper()
	if place, there := f.Take(); place != 0 || there || f.Len() != 0 {
		t.Fatalf("Take is %d, %v, where %d are free", place, there, f.Len())
	}
}

// 16.2
func TestNewFree(t *testing.T) {
	for _, n := range []int{1, 2, 3, 100, api.MaxCap - 1, api.MaxCap} {
		f := free(t, n)
		for place := range n {
			if f.Len() != n-place {
				t.Fatalf("of %d places %d are free, not %d", n, f.Len(), n-place)
			}
			takes(t, f, place)
		}
		takesNone(t, f)
		takesNone(t, f)
	}
	for _, n := range []int{math.MinInt, -api.MaxCap, -1, 0, api.MaxCap + 1, 2 * api.MaxCap, math.MaxInt} {
		if f, err := names.NewFree(n); f != nil || err != api.ErrRange {
			t.Errorf("NewFree(%d) is %v, %d", n, f, err)
		}
	}
}

// 16.2
func TestGive(t *testing.T) {
	f := free(t, 4)
	takes(t, f, 0, 1, 2)
	for _, place := range []int{2, 0} {
		if !f.Give(place) {
			t.Fatalf("Give(%d) does not hold", place)
		}
	}
	if f.Len() != 3 {
		t.Errorf("%d are free", f.Len())
	}
	for _, place := range []int{2, 0, 3, -1, 4, 5, math.MinInt, math.MaxInt} {
		if f.Give(place) {
			t.Errorf("Give(%d) holds", place)
		}
	}
	if f.Len() != 3 {
		t.Errorf("%d are free", f.Len())
	}
	takes(t, f, 3, 2, 0)
	takesNone(t, f)
	if !f.Give(1) || f.Give(1) {
		t.Error("Give does not tell whether it was free")
	}
	takes(t, f, 1)
	takesNone(t, f)
}

// 16.2: the row has room for all, also where it has gone round.
func TestGiveAll(t *testing.T) {
	f := free(t, 3)
	for range 5 {
		takes(t, f, 0, 1, 2)
		takesNone(t, f)
		for place := range 3 {
			if !f.Give(place) || f.Give(place) {
				t.Fatalf("Give(%d) does not tell whether it was free", place)
			}
		}
	}
	for range 7 {
		place, _ := f.Take()
		f.Give(place)
	}
	if f.Len() != 3 {
		t.Errorf("%d are free", f.Len())
	}
	takes(t, f, 1, 2, 0)
}

// 16.2: of places that are all free none is given.
func TestGiveNone(t *testing.T) {
	f := free(t, 3)
	for _, place := range []int{0, 1, 2, 3, -1} {
		if f.Give(place) {
			t.Errorf("Give(%d) holds", place)
		}
	}
	takes(t, f, 0, 1, 2)
}

// 16.2: where there are no places, none is free.
func TestNoFree(t *testing.T) {
	for _, f := range []*names.Free{nil, {}} {
		takesNone(t, f)
		if f.Give(0) || f.Give(-1) || f.Give(1) {
			t.Error("a place is given")
		}
		takesNone(t, f)
	}
}

// 16.3
func TestEachOnce(t *testing.T) {
	source := rand.New(rand.NewPCG(16, 2))
	for _, n := range []int{1, 2, 7, 100} {
		f := free(t, n)
		var row []int
		for place := range n {
			row = append(row, place)
		}
		for range 20 * n {
			if source.IntN(2) == 0 {
				if len(row) == 0 {
					takesNone(t, f)
					continue
				}
				takes(t, f, row[0])
				row = row[1:]
				continue
			}
			place := source.IntN(n+2) - 1
			want := place >= 0 && place < n && !slices.Contains(row, place)
			if got := f.Give(place); got != want {
				t.Fatalf("Give(%d), where %v are free of %d, is %v", place, row, n, got)
			}
			if want {
				row = append(row, place)
			}
			if f.Len() != len(row) {
				t.Fatalf("%d are free, not %d", f.Len(), len(row))
			}
		}
	}
}
