package ratio_test

import (
	"math"
	"testing"

	"satchel/api"
	"satchel/ratio"
)

func TestMean(t *testing.T) {
	for _, x := range []struct{ old, now, part, want float64 }{
		{10, 20, 0.25, 12.5}, {20, 10, 0.25, 17.5}, {10, 20, 0, 10}, {10, 20, 1, 20}, {10, 20, 2, 30}, {10, 20, -1, 0}, {-4, 4, 0.5, 0}, {5, 5, 0.5, 5}, {1, 0, 0.125, 0.875},
		{0, 0, 0.5, 0}, {nought, 0, 0.5, 0}, {nought, nought, 0.5, 0}, {0, least, 1, least},
		// A mean of none yet is now, whatever now is.
		{nan, 7, 0.5, 7}, {nan, 7, nan, 7}, {nan, inf, 0.5, inf}, {nan, -inf, 0, -inf}, {nan, nought, 1, nought}, {nan, nan, 0.5, nan}, {otherNo, nan, 0.5, nan},
		// A value that is none leaves the mean.
		{7, nan, 0.5, 7}, {7, nan, 0, 7}, {7, nan, nan, 7}, {inf, nan, 0.5, inf}, {-inf, nan, 0.5, -inf}, {nought, nan, 1, nought},
		// Infinities that are no edge of the sum.
		{7, inf, 0.5, inf}, {7, -inf, 0.5, -inf}, {7, inf, -0.5, -inf}, {inf, 7, -0.5, inf}, {inf, -inf, -1, inf}, {7, 8, inf, inf}, {8, 7, inf, -inf},
		// The sum is none: infinities that meet, or that meet a nought.
		{inf, inf, 0.5, inf}, {-inf, -inf, 0.5, -inf}, {inf, -inf, 0.5, -inf}, {-inf, inf, 0.5, inf}, {inf, 7, 0.5, 7}, {-inf, 7, 0.5, 7}, {7, inf, 0, inf}, {7, -inf, 0, -inf}, {inf, 7, 0, 7}, {7, 7, inf, 7}, {7, 8, nan, 8},
		// The difference is more than a float may be.
		{-most, most, 0.5, inf}, {most, -most, 0.5, -inf}, {-most, most, 0, most}, {most, -most, 0, -most},
	} {
		if got := ratio.Mean(x.old, x.now, x.part); !same(got, x.want) {
			t.Errorf("Mean(%v, %v, %v): %v; want %v", x.old, x.now, x.part, got, x.want)
		}
	}
}

// The product, rounded by itself, is 1; put together with the sum it would leave a rest.
func TestMeanIsRoundedStepByStep(t *testing.T) {
	for _, x := range []struct{ old, now, part float64 }{{-1, 0x1p-30, 1 - 0x1p-30}, {-1, -0x1p-30, 1 + 0x1p-30}} {
		if math.FMA(x.part, x.now-x.old, x.old) == 0 {
			t.Fatal(x, "tells nothing")
		}
		if got := ratio.Mean(x.old, x.now, x.part); !same(got, 0) {
			t.Errorf("Mean(%v, %v, %v): %v", x.old, x.now, x.part, got)
		}
		if got := ratio.Spread(x.old, 0, x.now, x.part); x.now > 0 && !same(got, 0) {
			t.Errorf("Spread(%v, 0, %v, %v): %v", x.old, x.now, x.part, got)
		}
	}
}

func TestSpread(t *testing.T) {
	for _, x := range []struct{ old, mean, now, part, want float64 }{
		{1, 10, 4, 0.5, 3.5}, {1, 4, 10, 0.5, 3.5}, {nan, 10, 14, 0.5, 4}, {nan, 14, 10, 0.5, 4}, {6, 10, 10, 0.5, 3}, {0, 0, 0, 0.5, 0}, {2, 5, 1, 0.25, 2.5}, {2, -5, -1, 0.25, 2.5}, {2, -5, 5, 0, 2}, {2, -5, 5, 1, 10}, {-2, 1, 1, 0.5, -1},
		// The size of a nought has no sign.
		{nan, 0, nought, 0.5, 0}, {nan, nought, 0, 0.5, 0}, {nan, 3, 3, 0.5, 0},
		// The difference is none.
		{2, nan, 3, 0.5, 2}, {2, 3, nan, 0.5, 2}, {2, otherNo, nan, 0.5, 2}, {2, inf, inf, 0.5, 2}, {2, -inf, -inf, 0.5, 2}, {inf, nan, 3, 0.5, inf}, {nan, nan, 3, 0.5, nan}, {nan, inf, inf, 0.5, nan},
		// The difference is infinite, of one sign or the other.
		{2, inf, 3, 0.5, inf}, {2, -inf, 3, 0.5, inf}, {2, 3, inf, 0.5, inf}, {2, 3, -inf, 0.5, inf}, {2, inf, -inf, 0.5, inf}, {nan, inf, -inf, 0.5, inf}, {2, most, -most, 0.5, inf}, {-inf, 3, -inf, 0.5, inf}, {inf, 3, 5, 0.5, 2}, {2, 3, -inf, 0, inf},
		{2, 3, 7, nan, 4}, {2, 7, 3, nan, 4},
	} {
		if got := ratio.Spread(x.old, x.mean, x.now, x.part); !same(got, x.want) {
			t.Errorf("Spread(%v, %v, %v, %v): %v; want %v", x.old, x.mean, x.now, x.part, got, x.want)
		}
	}
}

func TestWait(t *testing.T) {
	for _, x := range []struct {
		mean, spread float64
		want         int
	}{
		{5, 1.1, 10}, {-inf, 0, 2}, {nan, 0, 60}, {60.5, 0, 60}, {0, 0, 2},
		{5, 1, 9}, {5, -0.5, 3}, {5, 0.25, 6}, {4, 0.1, 5}, {-10, 5, 10}, {10, -5, 2}, {100, -15, 40}, {-100, 35, 40},
		{2, 0, 2}, {math.Nextafter(2, 3), 0, 3}, {math.Nextafter(2, 1), 0, 2}, {1, 0, 2}, {1.5, 0, 2}, {nought, nought, 2}, {-1, 0, 2}, {-0.5, 0, 2}, {-most, 0, 2}, {0, -most, 2}, {0, 0.5, 2}, {0, 0.51, 3},
		{60, 0, 60}, {math.Nextafter(60, 61), 0, 60}, {math.Nextafter(60, 59), 0, 60}, {59, 0, 59}, {math.Nextafter(59, 60), 0, 60}, {math.Nextafter(59, 58), 0, 59}, {61, 0, 60}, {0, 15, 60}, {0, 15.25, 60}, {most, 0, 60}, {0, most, 60}, {most, most, 60}, {1 << 63, 0, 60}, {1 << 40, 0, 60},
		{inf, 0, 60}, {0, inf, 60}, {inf, inf, 60}, {-inf, -inf, 2}, {0, -inf, 2}, {inf, -inf, 60}, {-inf, inf, 60}, {0, nan, 60}, {nan, nan, 60}, {otherNo, -inf, 60}, {-inf, nan, 60}, {-most, most, 60}, {most, -most, 2}, {-inf, most / 4, 2},
		// Four times the spread is more than a float may be.
		{-inf, most, 60}, {-inf, math.Nextafter(most/4, inf), 60}, {inf, -most, 60},
	} {
		if got := ratio.Wait(x.mean, x.spread); got != x.want {
			t.Errorf("Wait(%v, %v): %d; want %d", x.mean, x.spread, got, x.want)
		}
	}
}

func TestWaitIsTheLeastWholeNumber(t *testing.T) {
	for n := api.LeastWait; n <= api.MostWait; n++ {
		whole := float64(n)
		above := min(n+1, api.MostWait)
		for _, x := range []struct {
			mean float64
			want int
		}{{whole, n}, {math.Nextafter(whole, 0), n}, {whole - 0.5, n}, {math.Nextafter(whole, inf), above}, {whole + 0.5, above}} {
			if got := ratio.Wait(x.mean, 0); got != x.want {
				t.Errorf("Wait(%v, 0): %d; want %d", x.mean, got, x.want)
			}
			if got := ratio.Wait(0, x.mean/4); got != x.want {
				t.Errorf("Wait(0, %v): %d; want %d", x.mean/4, got, x.want)
			}
		}
	}
}

func TestMeanLiesBetween(t *testing.T) {
	values := []float64{0, nought, 1, -1, 3, 1e-9, -1e-9, 1e9, -1e9, 0.1, 7.3, 1e300, -1e300}
	for _, old := range values {
		for _, now := range values {
			for _, part := range []float64{0, 0.125, 0.25, 0.3, 0.5, 0.9, 1} {
				rest := 1e-15 * (math.Abs(old) + math.Abs(now))
				got := ratio.Mean(old, now, part)
				if !(got >= min(old, now)-rest && got <= max(old, now)+rest) {
					t.Errorf("Mean(%v, %v, %v): %v", old, now, part, got)
				}
			}
		}
	}
}

func TestMeanIsNoneOnlyOfNone(t *testing.T) {
	var flat []float64
	for _, g := range groups() {
		flat = append(flat, g...)
	}
	for _, old := range flat {
		for _, now := range flat {
			for _, part := range flat {
				got := ratio.Mean(old, now, part)
				if none := old != old && now != now; (got != got) != none {
					t.Errorf("Mean(%v, %v, %v): %v", old, now, part, got)
				}
			}
		}
	}
}

// risingFloats are floats, each greater than the one ahead, the infinities among them.
func risingFloats() []float64 {
	l := []float64{-inf, -most, -1e18}
	for n := -1600; n <= 1600; n++ {
		l = append(l, float64(n)/16)
	}
	return append(l, 1e18, most, inf)
}

func TestWaitNeverFalls(t *testing.T) {
	rising := risingFloats()
	fixed := []float64{-inf, -most, -20, -1, -0.3, 0, 0.25, 3, 20, most, inf}
	for _, f := range fixed {
		lastMean, lastSpread := 0, 0
		for _, x := range rising {
			byMean, bySpread := ratio.Wait(x, f), ratio.Wait(f, x)
			if byMean < lastMean || bySpread < lastSpread || min(byMean, bySpread) < api.LeastWait || max(byMean, bySpread) > api.MostWait {
				t.Errorf("%v and %v: %d behind %d, %d behind %d", x, f, byMean, lastMean, bySpread, lastSpread)
			}
			lastMean, lastSpread = byMean, bySpread
		}
	}
}
