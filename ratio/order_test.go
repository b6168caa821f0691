package ratio_test

import (
	"math"
	"slices"
	"testing"

	"satchel/ratio"
)

var (
	nan     = math.NaN()
	inf     = math.Inf(1)
	nought  = math.Copysign(0, -1)
	least   = math.SmallestNonzeroFloat64
	most    = math.MaxFloat64
	otherNo = math.Float64frombits(0xfff8000000000123) // a NaN with other bits, a sign among them
)

// same tells whether two floats are equal, the sign of a nought being one, or both NaN.
func same(a, b float64) bool {
	if a != a || b != b {
		return a != a && b != b
	}
	return a == b && math.Signbit(a) == math.Signbit(b)
}

// groups are floats in their order, those that are beside one another together.
func groups() [][]float64 {
	return [][]float64{
		{inf, inf}, {most}, {1 << 53}, {math.Nextafter(1, 2)}, {1, 1}, {math.Nextafter(1, 0)}, {0.5}, {least},
		{0, nought, 0}, {-least}, {-0.5}, {-1, -1}, {math.Nextafter(-1, -2)}, {-most}, {-inf, -inf}, {nan, otherNo, nan},
	}
}

func TestPart(t *testing.T) {
	for _, x := range []struct {
		n, of int
		want  float64
	}{
		{1, 4, 0.25}, {0, 0, nan}, {-1, 0, -inf}, {1, 0, inf}, {0, 7, 0}, {0, -7, nought}, {7, 7, 1}, {3, 2, 1.5}, {-3, 2, -1.5}, {3, -2, -1.5}, {-3, -2, 1.5},
		{1, 3, 1.0 / 3}, {2, 3, 2.0 / 3}, {1, 10, 0.1}, {5, 1, 5}, {1<<53 + 1, 1, 1 << 53}, {1<<53 + 3, 1, 1<<53 + 4}, {1 << 53, 1<<53 + 1, 1},
		{math.MaxInt, 1, 1 << 63}, {math.MinInt, 1, -(1 << 63)}, {math.MinInt, -1, 1 << 63}, {math.MaxInt, math.MaxInt, 1}, {1, math.MinInt, -1.0 / (1 << 63)}, {math.MaxInt, 0, inf}, {math.MinInt, 0, -inf},
	} {
		if got := ratio.Part(x.n, x.of); !same(got, x.want) {
			t.Errorf("Part(%d, %d): %v; want %v", x.n, x.of, got, x.want)
		}
	}
}

func TestBefore(t *testing.T) {
	for i, as := range groups() {
		for j, bs := range groups() {
			for _, a := range as {
				for _, b := range bs {
					if got := ratio.Before(a, b); got != (i < j) {
						t.Errorf("Before(%v, %v): %v", a, b, got)
					}
				}
			}
		}
	}
}

// eachList calls do with all lists of at most so many of some telling floats.
func eachList(size int, do func(l []float64)) {
	telling := []float64{nan, 0, nought, 1, inf, -inf, otherNo}
	var lay func(l []float64)
	lay = func(l []float64) {
		do(l)
		if len(l) < size {
			for _, x := range telling {
				lay(append(l[:len(l):len(l)], x))
			}
		}
	}
	lay(nil)
}

func TestBeforeIsAnOrder(t *testing.T) {
	eachList(3, func(l []float64) {
		if len(l) < 3 {
			return
		}
		a, b, c := l[0], l[1], l[2]
		if ratio.Before(a, b) && ratio.Before(b, a) {
			t.Errorf("%v and %v are ahead of one another", a, b)
		}
		if ratio.Before(a, c) && !ratio.Before(a, b) && !ratio.Before(b, c) {
			t.Errorf("%v is ahead of %v, and %v between", a, c, b)
		}
		beside := a == b || a != a && b != b
		if !ratio.Before(a, b) && !ratio.Before(b, a) != beside {
			t.Errorf("%v beside %v: %v", a, b, !beside)
		}
	})
}

func TestPick(t *testing.T) {
	for _, x := range []struct {
		l    []float64
		want int
	}{
		{nil, -1}, {[]float64{}, -1}, {[]float64{5}, 0}, {[]float64{nan}, 0}, {[]float64{-inf}, 0},
		{[]float64{nan, 1, 3, 3}, 2}, {[]float64{nan, nan}, 0}, {[]float64{3, 3, 3}, 0}, {[]float64{1, 2, 3}, 2}, {[]float64{3, 2, 1}, 0},
		{[]float64{nan, otherNo, -inf}, 2}, {[]float64{nan, -inf, nan, -inf}, 1}, {[]float64{0, nought}, 0}, {[]float64{nought, 0}, 0}, {[]float64{-1, nought, 0, least}, 3},
		{[]float64{most, inf, inf}, 1}, {[]float64{inf, nan}, 0}, {[]float64{-2, -1, nan}, 1},
	} {
		if got := ratio.Pick(x.l); got != x.want {
			t.Errorf("Pick(%v): %d; want %d", x.l, got, x.want)
		}
	}
}

func TestOrder(t *testing.T) {
	for _, x := range []struct {
		l    []float64
		want []int
	}{
		{nil, nil}, {[]float64{}, nil}, {[]float64{5}, []int{0}}, {[]float64{nan}, []int{0}},
		{[]float64{1, nan, 3, nought, 0}, []int{2, 0, 3, 4, 1}},
		{[]float64{3, 2, 1}, []int{0, 1, 2}}, {[]float64{1, 2, 3}, []int{2, 1, 0}}, {[]float64{2, 2, 2}, []int{0, 1, 2}},
		{[]float64{nan, otherNo, nan}, []int{0, 1, 2}}, {[]float64{0, nought, 0, nought}, []int{0, 1, 2, 3}}, {[]float64{nought, 0, -1, 1}, []int{3, 0, 1, 2}},
		{[]float64{nan, -inf, inf, nan, most, -most}, []int{2, 4, 5, 1, 0, 3}}, {[]float64{1, 2, 1, 2, 1}, []int{1, 3, 0, 2, 4}},
	} {
		if got := ratio.Order(x.l); !slices.Equal(got, x.want) {
			t.Errorf("Order(%v): %v; want %v", x.l, got, x.want)
		}
	}
}

// wantOrdered holds the places of a list against what the document says of them, and the first one against Pick's.
func wantOrdered(t *testing.T, l []float64) {
	t.Helper()
	places := ratio.Order(l)
	once := slices.Sorted(slices.Values(places))
	for i, place := range once {
		if place != i {
			t.Fatalf("%v: %v: not each place once", l, places)
		}
	}
	if len(places) != len(l) {
		t.Fatalf("%v: %v: not all places", l, places)
	}
	for i := 1; i < len(places); i++ {
		a, b := places[i-1], places[i]
		if ratio.Before(l[b], l[a]) || !ratio.Before(l[a], l[b]) && a > b {
			t.Fatalf("%v: %v: %d is ahead of %d", l, places, a, b)
		}
	}
	first := -1
	if len(places) > 0 {
		first = places[0]
	}
	if got := ratio.Pick(l); got != first {
		t.Fatalf("%v: %v: picked is %d", l, places, got)
	}
}

func TestOrderOfAllShortLists(t *testing.T) {
	eachList(5, func(l []float64) { wantOrdered(t, l) })
}

// A sort that keeps no order may still keep it in short lists.
func TestOrderOfLongLists(t *testing.T) {
	flat := slices.Concat(groups()...)
	for _, size := range []int{12, 13, 20, 21, 50, 257, 2000} {
		for _, step := range []int{0, 1, 5, 7, 13} {
			var l []float64
			for i := range size {
				l = append(l, flat[(i*step+i/9)%len(flat)])
			}
			wantOrdered(t, l)
			slices.Reverse(l)
			wantOrdered(t, l)
		}
	}
}

func TestListsAreNotChanged(t *testing.T) {
	given := []float64{1, nan, 3, 9, 8}
	was := slices.Clone(given)
	if got := ratio.Pick(given[:3]); got != 2 {
		t.Errorf("spare room is picked: %d", got)
	}
	if got := ratio.Order(given[:3]); !slices.Equal(got, []int{2, 0, 1}) {
		t.Errorf("spare room is ordered: %v", got)
	}
	if !slices.EqualFunc(given, was, same) {
		t.Errorf("what was handed in was changed: %v", given)
	}
}

func TestOrdersAreNewMemory(t *testing.T) {
	given := []float64{1, 3, 2}
	first, second := ratio.Order(given), ratio.Order(given)
	room := first[:cap(first)]
	for i := range room {
		room[i] = 99
	}
	if want := []int{1, 2, 0}; !slices.Equal(second, want) || !slices.Equal(ratio.Order(given), want) {
		t.Errorf("one answer shares the other's places: %v", second)
	}
}
