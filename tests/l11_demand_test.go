package tests

import (
	"math"
	"slices"
	"strconv"
	"testing"

	"loop.example/g00264/impl"
)

const (
	mostAvg   = 16 * most
	mostTicks = 1000
)

// rightDemands has demands at and beside the edges of what each number may be.
func rightDemands() []impl.Demand {
	var list []impl.Demand
	for _, avg := range []int{0, 1, 15, 16, 17, 144, 16 * 1000003, mostAvg / 1000, mostAvg/1000 + 1, mostAvg - 17, mostAvg - 16, mostAvg - 15, mostAvg - 1, mostAvg} {
		for _, count := range []int{0, 1, 2, most - 1, most} {
			for _, open := range []int{0, 1, 16, 999983, most - 1, most} {
				list = append(list, impl.Demand{Avg: avg, Count: count, Open: open})
			}
		}
	}
	return list
}

// wrongDemands has demands of which one number is wrong, or all of them are.
func wrongDemands() []impl.Demand {
	var list []impl.Demand
	for _, right := range []impl.Demand{{}, {Avg: 144, Count: 2, Open: 5}, {Avg: mostAvg, Count: most, Open: most}} {
		for _, c := range []struct {
			field    func(*impl.Demand) *int
			greatest int
		}{
			{func(d *impl.Demand) *int { return &d.Avg }, mostAvg},
			{func(d *impl.Demand) *int { return &d.Count }, most},
			{func(d *impl.Demand) *int { return &d.Open }, most},
		} {
			for _, value := range []int{-1, -16, c.greatest + 1, c.greatest + 16, math.MinInt, math.MaxInt} {
				wrong := right
				*c.field(&wrong) = value
				list = append(list, wrong)
			}
		}
	}
	for _, value := range []int{-1, mostAvg + 1, math.MinInt, math.MaxInt} {
		list = append(list, impl.Demand{Avg: value, Count: value, Open: value})
	}
	return list
}

func noAmounts() []int { return []int{-1, -most, most + 1, 2 * most, math.MinInt, math.MaxInt} }

func noTicks() []int {
	return []int{-1, -mostTicks, mostTicks + 1, most, math.MinInt, math.MaxInt}
}

func isDemand(d impl.Demand) bool {
	return isIn(d.Avg, 0, mostAvg) && isIn(d.Count, 0, most) && isIn(d.Open, 0, most)
}

func plainAsk(d impl.Demand, n int) impl.Demand {
	if isDemand(d) && isIn(n, 0, most) {
		d.Open = min(d.Open+n, most)
	}
	return d
}

func plainTick(d impl.Demand) impl.Demand {
	switch {
	case !isDemand(d):
		return d
	case d.Count == 0:
		return impl.Demand{Avg: 16 * d.Open, Count: 1}
	}
	sixteenth := (d.Avg - d.Avg%16) / 16
	return impl.Demand{Avg: d.Avg - sixteenth + d.Open, Count: min(d.Count+1, most)}
}

func plainForecast(d impl.Demand, ticks int) int {
	if !isDemand(d) || !isIn(ticks, 0, mostTicks) {
		return -1
	}
	parts := d.Avg * ticks
	whole := parts / 16
	if whole*16 < parts {
		whole++
	}
	return min(whole, most)
}

func plainLack(d impl.Demand, free, low, high int) int {
	if !isDemand(d) || !isIn(free, 0, most) || !isIn(low, 0, mostTicks) || !isIn(high, 0, mostTicks) || high < low {
		return -1
	}
	if free >= plainForecast(d, low) {
		return 0
	}
	return max(plainForecast(d, high)-free, 0)
}

func plainSurplus(d impl.Demand, free, high int) int {
	if !isDemand(d) || !isIn(free, 0, most) || !isIn(high, 0, mostTicks) {
		return -1
	}
	return max(free-plainForecast(d, high), 0)
}

func wantDemand(t *testing.T, what string, d, got, want impl.Demand) {
	t.Helper()
	if got != want {
		t.Fatalf("%s of %+v is %+v, want %+v", what, d, got, want)
	}
}

func wantForecast(t *testing.T, d impl.Demand, ticks, want int) {
	t.Helper()
	if got := impl.Forecast(d, ticks); got != want {
		t.Fatalf("Forecast(%+v, %d) = %d, want %d", d, ticks, got, want)
	}
}

func wantLack(t *testing.T, d impl.Demand, free, low, high, want int) {
	t.Helper()
	if got := impl.Lack(d, free, low, high); got != want {
		t.Fatalf("Lack(%+v, %d, %d, %d) = %d, want %d", d, free, low, high, got, want)
	}
}

func wantSurplus(t *testing.T, d impl.Demand, free, high, want int) {
	t.Helper()
	if got := impl.Surplus(d, free, high); got != want {
		t.Fatalf("Surplus(%+v, %d, %d) = %d, want %d", d, free, high, got, want)
	}
}

func TestDemandsThatAreRight(t *testing.T) {
	for _, d := range rightDemands() {
		if !impl.DemandOk(d) {
			t.Errorf("%+v is right", d)
		}
	}
}

func TestDemandsThatAreWrong(t *testing.T) {
	for _, d := range wrongDemands() {
		if impl.DemandOk(d) {
			t.Errorf("%+v is wrong", d)
		}
	}
}

func TestDemandAskValues(t *testing.T) {
	for _, c := range []struct{ open, n, want int }{
		{0, 0, 0}, {0, 1, 1}, {0, 5, 5}, {5, 0, 5}, {5, 3, 8},
		{0, most - 1, most - 1}, {0, most, most},
		{1, most - 2, most - 1}, {1, most - 1, most}, {1, most, most},
		{most - 1, 0, most - 1}, {most - 1, 1, most}, {most - 1, 2, most}, {most - 1, most, most},
		{most, 0, most}, {most, 1, most}, {most, most, most},
	} {
		for _, count := range []int{0, 1, 7, most} {
			d := impl.Demand{Avg: 144, Count: count, Open: c.open}
			want := impl.Demand{Avg: 144, Count: count, Open: c.want}
			wantDemand(t, "asking for "+strconv.Itoa(c.n), d, impl.DemandAsk(d, c.n), want)
		}
	}
}

func TestDemandAskOfManyDemands(t *testing.T) {
	for _, d := range rightDemands() {
		for _, n := range []int{0, 1, 2, 16, most / 2, most - d.Open - 1, most - d.Open, most - d.Open + 1, most - 1, most} {
			wantDemand(t, "asking for "+strconv.Itoa(n), d, impl.DemandAsk(d, n), plainAsk(d, n))
		}
	}
}

func TestDemandAskThatIsNotTold(t *testing.T) {
	for _, d := range rightDemands() {
		for _, n := range noAmounts() {
			wantDemand(t, "asking for "+strconv.Itoa(n), d, impl.DemandAsk(d, n), d)
		}
	}
	for _, d := range wrongDemands() {
		for _, n := range append(noAmounts(), 0, 1, 16, most) {
			wantDemand(t, "asking for "+strconv.Itoa(n), d, impl.DemandAsk(d, n), d)
		}
	}
}

func TestFirstTick(t *testing.T) {
	for _, open := range []int{0, 1, 8, 16, 12345, most - 1, most} {
		// An Avg that no tick has made does not count.
		for _, avg := range []int{0, 1, 16, 144, mostAvg - 1, mostAvg} {
			d := impl.Demand{Avg: avg, Open: open}
			wantDemand(t, "the first tick", d, impl.DemandTick(d), impl.Demand{Avg: 16 * open, Count: 1})
		}
	}
}

func TestLaterTickValues(t *testing.T) {
	for _, c := range []struct{ avg, open, want int }{
		{0, 0, 0}, {0, 5, 5}, {1, 0, 1}, {15, 0, 15}, {16, 0, 15}, {17, 0, 16}, {31, 0, 30}, {32, 0, 30}, {33, 0, 31},
		{15, 1, 16}, {16, 1, 16}, {17, 1, 17}, {128, 24, 144}, {144, 9, 144}, {144, 0, 135}, {135, 0, 127},
		{0, most, most}, {most, most, 1937500000},
		{mostAvg, 0, 15 * most}, {mostAvg, 1, 15*most + 1}, {mostAvg, most - 1, mostAvg - 1}, {mostAvg, most, mostAvg},
		{mostAvg - 1, most, mostAvg}, {mostAvg - 15, most, mostAvg - 14}, {mostAvg - 16, most, mostAvg - 15}, {mostAvg - 17, most, mostAvg - 15},
	} {
		for _, count := range []int{1, 2, 15, 16, 17, most - 1} {
			d := impl.Demand{Avg: c.avg, Count: count, Open: c.open}
			wantDemand(t, "a tick", d, impl.DemandTick(d), impl.Demand{Avg: c.want, Count: count + 1})
		}
		// A Count at its most stays there, and the tick is no first one.
		d := impl.Demand{Avg: c.avg, Count: most, Open: c.open}
		wantDemand(t, "a tick", d, impl.DemandTick(d), impl.Demand{Avg: c.want, Count: most})
	}
}

func TestTickOfManyDemands(t *testing.T) {
	for _, d := range rightDemands() {
		wantDemand(t, "a tick", d, impl.DemandTick(d), plainTick(d))
	}
	for avg := range 600 {
		for open := range 40 {
			for _, count := range []int{0, 1, most} {
				d := impl.Demand{Avg: avg, Count: count, Open: open}
				wantDemand(t, "a tick", d, impl.DemandTick(d), plainTick(d))
			}
		}
	}
}

func TestTickOfWrongDemands(t *testing.T) {
	for _, d := range wrongDemands() {
		wantDemand(t, "a tick", d, impl.DemandTick(d), d)
	}
}

func TestForecastValues(t *testing.T) {
	for _, c := range []struct{ avg, ticks, want int }{
		{0, 0, 0}, {0, 1, 0}, {0, 1000, 0},
		{1, 0, 0}, {1, 1, 1}, {1, 2, 1}, {1, 15, 1}, {1, 16, 1}, {1, 17, 2}, {1, 32, 2}, {1, 33, 3}, {1, 999, 63}, {1, 1000, 63},
		{15, 1, 1}, {16, 1, 1}, {17, 1, 2}, {31, 1, 2}, {32, 1, 2}, {33, 1, 3},
		{8, 1, 1}, {8, 2, 1}, {8, 3, 2}, {7, 7, 4}, {144, 1, 9}, {144, 3, 27}, {144, 1000, 9000},
		{most, 15, 937500000}, {most, 16, most}, {most, 17, most},
		// The last whole number that is an amount, and what is a part of one above it.
		{16*most - 16, 1, most - 1}, {16*most - 15, 1, most}, {16*most - 1, 1, most}, {16 * most, 0, 0}, {16 * most, 1, most}, {16 * most, 2, most},
		{16 * 1000000, 1000, most}, {16*1000000 - 1, 1000, most - 62}, {16*1000000 + 1, 1000, most}, {16*1000000 + 1, 999, 999000063},
		{8 * most, 1, most / 2}, {8*most + 1, 2, most}, {8*most - 1, 2, most}, {8*most - 8, 2, most - 1},
		{16 * most, 1000, most}, {16 * most, 999, most},
	} {
		for _, count := range []int{0, 1, most} {
			for _, open := range []int{0, 1, most} {
				wantForecast(t, impl.Demand{Avg: c.avg, Count: count, Open: open}, c.ticks, c.want)
			}
		}
	}
}

func TestForecastIsTheLeastThatIsEnough(t *testing.T) {
	for avg := range 70 {
		for ticks := range mostTicks + 1 {
			enough := 0
			for 16*enough < avg*ticks {
				enough++
			}
			wantForecast(t, impl.Demand{Avg: avg, Count: 3}, ticks, enough)
		}
	}
}

func TestForecastOfManyDemands(t *testing.T) {
	for _, d := range rightDemands() {
		for _, ticks := range []int{0, 1, 2, 15, 16, 17, 500, mostTicks - 1, mostTicks} {
			wantForecast(t, d, ticks, plainForecast(d, ticks))
		}
	}
}

func TestForecastThatIsNotTold(t *testing.T) {
	for _, d := range rightDemands() {
		for _, ticks := range noTicks() {
			wantForecast(t, d, ticks, -1)
		}
	}
	for _, d := range wrongDemands() {
		for _, ticks := range append(noTicks(), 0, 1, 16, mostTicks) {
			wantForecast(t, d, ticks, -1)
		}
	}
}

func TestLackValues(t *testing.T) {
	// 9 are wanted in a tick: 18 in two, 45 in five.
	d := impl.Demand{Avg: 144, Count: 2, Open: 7}
	for _, c := range []struct{ free, low, high, want int }{
		{0, 2, 5, 45}, {1, 2, 5, 44}, {17, 2, 5, 28}, {18, 2, 5, 0}, {19, 2, 5, 0},
		{44, 2, 5, 0}, {45, 2, 5, 0}, {46, 2, 5, 0}, {most, 2, 5, 0},
		// low is high.
		{0, 2, 2, 18}, {17, 2, 2, 1}, {18, 2, 2, 0}, {19, 2, 2, 0}, {0, 0, 0, 0}, {8999, 1000, 1000, 1}, {9000, 1000, 1000, 0},
		// Nothing is wanted in no tick, so there is no lack of it.
		{0, 0, 5, 0}, {1, 0, 1000, 0},
		{0, 1, 1000, 9000}, {8, 1, 1000, 8992}, {9, 1, 1000, 0},
		// low is above high.
		{0, 3, 2, -1}, {17, 3, 2, -1}, {most, 3, 2, -1}, {0, 1, 0, -1}, {0, 1000, 999, -1}, {most, 1000, 0, -1},
	} {
		wantLack(t, d, c.free, c.low, c.high, c.want)
	}
	part := impl.Demand{Avg: 17, Count: 1}
	wantLack(t, part, 1, 1, 2, 2)
	wantLack(t, part, 2, 1, 2, 0)
	none := impl.Demand{Count: 1, Open: most}
	wantLack(t, none, 0, 0, 1000, 0)
	wantLack(t, none, 0, 1000, 1000, 0)
	all := impl.Demand{Avg: mostAvg, Count: most}
	wantLack(t, all, 0, 0, 1000, 0)
	wantLack(t, all, 0, 1, 1000, most)
	wantLack(t, all, 1, 1, 1, most-1)
	wantLack(t, all, most-1, 1000, 1000, 1)
	wantLack(t, all, most, 1000, 1000, 0)
}

// besideForecasts has the amounts just below, at and above what is wanted in each of these ticks.
func besideForecasts(d impl.Demand, ticks ...int) []int {
	list := []int{0, 1, most / 2, most - 1, most}
	for _, n := range ticks {
		wanted := plainForecast(d, n)
		list = append(list, max(wanted-1, 0), wanted, min(wanted+1, most))
	}
	return list
}

func TestLackOfManyDemands(t *testing.T) {
	ticks := []int{0, 1, 2, 16, 17, mostTicks - 1, mostTicks}
	for _, d := range rightDemands() {
		for _, low := range ticks {
			for _, high := range ticks {
				for _, free := range besideForecasts(d, low, high) {
					wantLack(t, d, free, low, high, plainLack(d, free, low, high))
				}
			}
		}
	}
}

func TestLackThatIsNotTold(t *testing.T) {
	for _, d := range rightDemands() {
		for _, n := range noAmounts() {
			wantLack(t, d, n, 1, 3, -1)
			wantLack(t, d, n, 0, 0, -1)
		}
		for _, n := range noTicks() {
			// Where free is enough for low, it would be 0 but for the wrong number.
			for _, free := range []int{0, 5, most} {
				wantLack(t, d, free, n, 3, -1)
				wantLack(t, d, free, n, mostTicks, -1)
				wantLack(t, d, free, 1, n, -1)
				wantLack(t, d, free, 0, n, -1)
				wantLack(t, d, free, n, n, -1)
			}
		}
	}
	for _, d := range wrongDemands() {
		for _, free := range append(noAmounts(), 0, 1, most) {
			for _, low := range append(noTicks(), 0, 1, mostTicks) {
				for _, high := range append(noTicks(), 0, 1, mostTicks) {
					wantLack(t, d, free, low, high, -1)
				}
			}
		}
	}
}

func TestSurplusValues(t *testing.T) {
	d := impl.Demand{Avg: 144, Count: 2, Open: 7}
	for _, c := range []struct{ free, high, want int }{
		{0, 0, 0}, {1, 0, 1}, {most, 0, most},
		{0, 3, 0}, {1, 3, 0}, {26, 3, 0}, {27, 3, 0}, {28, 3, 1}, {30, 3, 3}, {most, 3, most - 27},
		{8999, 1000, 0}, {9000, 1000, 0}, {9001, 1000, 1},
	} {
		wantSurplus(t, d, c.free, c.high, c.want)
	}
	part := impl.Demand{Avg: 17, Count: 1}
	wantSurplus(t, part, 1, 1, 0)
	wantSurplus(t, part, 2, 1, 0)
	wantSurplus(t, part, 3, 1, 1)
	all := impl.Demand{Avg: mostAvg, Count: most}
	wantSurplus(t, all, most, 0, most)
	wantSurplus(t, all, most, 1, 0)
	wantSurplus(t, all, most, 1000, 0)
	wantSurplus(t, all, most-1, 1000, 0)
}

func TestSurplusOfManyDemands(t *testing.T) {
	for _, d := range rightDemands() {
		for _, high := range []int{0, 1, 2, 16, 17, mostTicks - 1, mostTicks} {
			for _, free := range besideForecasts(d, high) {
				wantSurplus(t, d, free, high, plainSurplus(d, free, high))
			}
		}
	}
}

func TestSurplusThatIsNotTold(t *testing.T) {
	for _, d := range rightDemands() {
		for _, n := range noAmounts() {
			wantSurplus(t, d, n, 0, -1)
			wantSurplus(t, d, n, 3, -1)
			wantSurplus(t, d, n, mostTicks, -1)
		}
		for _, n := range noTicks() {
			wantSurplus(t, d, 0, n, -1)
			wantSurplus(t, d, 5, n, -1)
			wantSurplus(t, d, most, n, -1)
		}
	}
	for _, d := range wrongDemands() {
		for _, free := range append(noAmounts(), 0, 1, most) {
			for _, high := range append(noTicks(), 0, 1, mostTicks) {
				wantSurplus(t, d, free, high, -1)
			}
		}
	}
}

// TestLackAndSurplusMeet holds them against each other: who gets what is lacking has just what is wanted, and nothing to give back.
func TestLackAndSurplusMeet(t *testing.T) {
	for _, d := range rightDemands() {
		for _, low := range []int{0, 1, 16, mostTicks} {
			for _, high := range []int{low, (low + mostTicks) / 2, mostTicks} {
				for _, free := range besideForecasts(d, low, high) {
					lack, surplus := impl.Lack(d, free, low, high), impl.Surplus(d, free, high)
					if lack > 0 && (surplus != 0 || free+lack != impl.Forecast(d, high)) {
						t.Fatalf("%+v with %d free lacks %d of %d .. %d, and has %d too many", d, free, lack, low, high, surplus)
					}
					wantLack(t, d, free+lack, low, high, 0)
					wantLack(t, d, free-surplus, high, high, max(impl.Forecast(d, high)-free, 0))
					wantSurplus(t, d, free-surplus, high, 0)
				}
			}
		}
	}
}

// askedInParts asks for n in as many asks, of which the last has the rest.
func askedInParts(d impl.Demand, n, parts int) impl.Demand {
	for range parts - 1 {
		d = impl.DemandAsk(d, n/parts)
	}
	return impl.DemandAsk(d, n-n/parts*(parts-1))
}

func TestSteadyDemandIsForecast(t *testing.T) {
	for _, n := range []int{0, 1, 2, 7, 15, 16, 17, 255, 12345, 1000000, 1000001, most/16 + 1, most - 1, most} {
		for _, parts := range []int{1, 3} {
			d := impl.Demand{}
			for tick := 1; tick <= 300; tick++ {
				d = impl.DemandTick(askedInParts(d, n, parts))
				wantDemand(t, "each tick as many", d, d, impl.Demand{Avg: 16 * n, Count: tick})
				for _, ticks := range []int{0, 1, 2, 999, 1000} {
					wantForecast(t, d, ticks, min(n*ticks, most))
				}
			}
		}
	}
}

func TestDemandThatBecomesSteady(t *testing.T) {
	for _, first := range []int{0, 1, 40, 1000, most} {
		for _, n := range []int{0, 1, 9, 16, 1000, most} {
			d := impl.DemandTick(impl.DemandAsk(impl.Demand{}, first))
			for range 600 {
				d = impl.DemandTick(impl.DemandAsk(d, n))
			}
			// A part of one may be left of more that was wanted once.
			if got := impl.Forecast(d, 1); got != n && (first < n || got != n+1) {
				t.Errorf("%d, and then %d in each tick: %d is forecast, of %+v", first, n, got, d)
			}
		}
	}
}

func TestDemandStaysRight(t *testing.T) {
	amounts := []int{0, 1, 2, 15, 16, 17, 1000, most / 2, most - 1, most, most + 1, -1, math.MinInt, math.MaxInt}
	for seed := range 200 {
		c := chooser{uint32(seed)}
		d := impl.Demand{}
		if starts := rightDemands(); seed%2 == 1 {
			d = starts[c.below(len(starts))]
		}
		for range 300 {
			was := d
			if c.below(2) == 0 {
				d = impl.DemandTick(was)
				wantDemand(t, "a tick", was, d, plainTick(was))
			} else {
				n := amounts[c.below(len(amounts))]
				d = impl.DemandAsk(was, n)
				wantDemand(t, "asking for "+strconv.Itoa(n), was, d, plainAsk(was, n))
			}
			if !impl.DemandOk(d) || !isDemand(d) {
				t.Fatalf("%+v becomes %+v, which is wrong", was, d)
			}
		}
	}
}

// TestDemandsAreLeftAlone asks twice, with all other questions in between: nothing is written into a demand, and nothing kept.
func TestDemandsAreLeftAlone(t *testing.T) {
	list := slices.Concat(rightDemands(), wrongDemands())
	kept := slices.Clone(list)
	answers := func(d impl.Demand) []any {
		return []any{
			impl.DemandOk(d), impl.DemandAsk(d, 5), impl.DemandTick(d),
			impl.Forecast(d, 3), impl.Lack(d, 1, 1, 3), impl.Surplus(d, most, 3),
		}
	}
	var first [][]any
	for i := range list {
		first = append(first, answers(list[i]))
	}
	for i := range slices.Backward(list) {
		if again := answers(list[i]); !slices.Equal(again, first[i]) {
			t.Fatalf("%+v: %v, and at first %v", list[i], again, first[i])
		}
	}
	if !slices.Equal(list, kept) {
		t.Error("a demand was written into")
	}
}
