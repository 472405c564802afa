package tests

import (
	"math"
	"math/big"
	"slices"
	"testing"

	"loop.example/g00264/impl"
)

const most = 1000000000

// smallBuckets has all right buckets within small bounds, with Last 5.
func smallBuckets() []impl.Bucket {
	var list []impl.Bucket
	for size := range 5 {
		for _, rate := range []int{0, 1, 2, 3, 4, 7, 20} {
			for per := 1; per <= 5; per++ {
				for has := range size + 1 {
					for part := range per {
						if has == size && part > 0 {
							continue
						}
						list = append(list, impl.Bucket{Size: size, Rate: rate, Per: per, Has: has, Part: part, Last: 5})
					}
				}
			}
		}
	}
	return list
}

// greatBuckets has right buckets at the edges of what each number may be.
func greatBuckets() []impl.Bucket {
	var list []impl.Bucket
	for _, size := range []int{0, 1, 17, most - 1, most} {
		for _, rate := range []int{0, 1, 3, 999983, most - 1, most} {
			for _, per := range []int{1, 2, 7, 999999, 1000000} {
				for _, last := range []int{0, 1, 500000000, most - 1, most} {
					for _, has := range []int{0, size / 2, size - 1, size} {
						for _, part := range []int{0, per / 2, per - 1} {
							if has < 0 || has == size && part > 0 {
								continue
							}
							list = append(list, impl.Bucket{Size: size, Rate: rate, Per: per, Has: has, Part: part, Last: last})
						}
					}
				}
			}
		}
	}
	return list
}

// wrongBuckets has right buckets of which one number is wrong.
func wrongBuckets() []impl.Bucket {
	right := impl.Bucket{Size: 10, Rate: 3, Per: 4, Has: 5, Part: 2, Last: 100}
	list := []impl.Bucket{
		{},
		{Size: 10, Rate: 3, Per: 4, Has: 10, Part: 1, Last: 100},
		{Size: 10, Rate: 3, Per: 4, Has: 10, Part: 3},
		{Size: 0, Rate: 1, Per: 2, Part: 1},
		{Size: 0, Rate: 1, Per: 2, Has: 1},
		{Size: 10, Rate: 3, Per: 4, Has: 11, Last: 100},
		{Size: 10, Rate: 0, Per: 1, Has: math.MaxInt, Last: 100},
		{Size: most, Rate: 3, Per: 4, Has: most + 1, Last: 100},
		{Size: 10, Rate: 3, Per: 0, Has: 10, Last: 100},
		{Size: most, Rate: most, Per: 1000000, Has: most, Part: 999999, Last: most},
	}
	for _, c := range []struct {
		field  func(*impl.Bucket) *int
		values []int
	}{
		{func(b *impl.Bucket) *int { return &b.Size }, []int{-1, 0, 4, most + 1}},
		{func(b *impl.Bucket) *int { return &b.Rate }, []int{-1, most + 1}},
		{func(b *impl.Bucket) *int { return &b.Per }, []int{-1, 0, 1, 2, 1000001}},
		{func(b *impl.Bucket) *int { return &b.Has }, []int{-1, 11}},
		{func(b *impl.Bucket) *int { return &b.Part }, []int{-1, 4, 5}},
		{func(b *impl.Bucket) *int { return &b.Last }, []int{-1, most + 1}},
	} {
		for _, value := range append(c.values, math.MaxInt, math.MinInt) {
			wrong := right
			*c.field(&wrong) = value
			list = append(list, wrong)
		}
	}
	return list
}

// tickByTick fills a bucket as the document tells it, one tick after another.
func tickByTick(b impl.Bucket, now int) impl.Bucket {
	for b.Last < now {
		b.Last++
		b.Part += b.Rate
		for b.Part >= b.Per {
			b.Part -= b.Per
			b.Has++
		}
		if b.Has >= b.Size {
			b.Has, b.Part = b.Size, 0
		}
	}
	return b
}

// filledByBig fills a bucket with numbers that can not wrap round.
func filledByBig(b impl.Bucket, now int) impl.Bucket {
	parts := new(big.Int).Mul(big.NewInt(int64(b.Rate)), big.NewInt(int64(now-b.Last)))
	parts.Add(parts, big.NewInt(int64(b.Part)))
	whole, rest := new(big.Int).DivMod(parts, big.NewInt(int64(b.Per)), new(big.Int))
	whole.Add(whole, big.NewInt(int64(b.Has)))
	b.Last = now
	if whole.Cmp(big.NewInt(int64(b.Size))) >= 0 {
		b.Has, b.Part = b.Size, 0
		return b
	}
	b.Has, b.Part = int(whole.Int64()), int(rest.Int64())
	return b
}

func TestBucketsThatAreRight(t *testing.T) {
	for _, b := range slices.Concat(smallBuckets(), greatBuckets()) {
		if !impl.BucketOk(b) {
			t.Fatalf("%+v is right", b)
		}
	}
}

func TestBucketsThatAreWrong(t *testing.T) {
	for _, b := range wrongBuckets() {
		if impl.BucketOk(b) {
			t.Errorf("%+v is wrong", b)
		}
	}
}

func TestFillValues(t *testing.T) {
	b := impl.Bucket{Size: 10, Rate: 3, Per: 4, Has: 5, Part: 2, Last: 100}
	for _, c := range []struct{ now, has, part int }{
		{100, 5, 2},
		{101, 6, 1},
		{102, 7, 0},
		{103, 7, 3},
		{104, 8, 2},
		{105, 9, 1},
		{106, 10, 0},
		{107, 10, 0},
		{most, 10, 0},
	} {
		want := impl.Bucket{Size: 10, Rate: 3, Per: 4, Has: c.has, Part: c.part, Last: c.now}
		if got := impl.Fill(b, c.now); got != want {
			t.Errorf("at %d: %+v, want %+v", c.now, got, want)
		}
	}
}

func TestFillIsTickByTick(t *testing.T) {
	for _, b := range smallBuckets() {
		for now := b.Last; now <= b.Last+30; now++ {
			if got, want := impl.Fill(b, now), tickByTick(b, now); got != want {
				t.Fatalf("Fill(%+v, %d) = %+v, want %+v", b, now, got, want)
			}
		}
	}
}

func TestFillOfGreatNumbers(t *testing.T) {
	for _, b := range greatBuckets() {
		for _, now := range []int{b.Last, b.Last + 1, (b.Last + most) / 2, most - 1, most} {
			if now < b.Last || now > most {
				continue
			}
			if got, want := impl.Fill(b, now), filledByBig(b, now); got != want {
				t.Fatalf("Fill(%+v, %d) = %+v, want %+v", b, now, got, want)
			}
		}
	}
}

func TestFillThatIsNotTold(t *testing.T) {
	for _, b := range greatBuckets() {
		for _, now := range []int{b.Last - 1, -1, most + 1, math.MaxInt, math.MinInt} {
			if got := impl.Fill(b, now); got != b {
				t.Fatalf("Fill(%+v, %d) = %+v", b, now, got)
			}
		}
	}
	for _, b := range wrongBuckets() {
		for _, now := range []int{b.Last, 0, 1, 100, 101, most, most + 1, math.MaxInt, math.MinInt} {
			if got := impl.Fill(b, now); got != b {
				t.Errorf("Fill of a wrong bucket %+v at %d = %+v", b, now, got)
			}
		}
	}
}

func TestLookedAtInBetween(t *testing.T) {
	for _, b := range smallBuckets() {
		for now := b.Last; now <= b.Last+12; now++ {
			once := impl.Fill(b, now)
			each := b
			for between := b.Last; between <= now; between++ {
				if got := impl.Fill(impl.Fill(b, between), now); got != once {
					t.Fatalf("%+v looked at at %d has at %d %+v, else %+v", b, between, now, got, once)
				}
				each = impl.Fill(each, between)
			}
			if each != once {
				t.Fatalf("%+v looked at at each tick has at %d %+v, else %+v", b, now, each, once)
			}
		}
	}
	for _, b := range greatBuckets() {
		once := impl.Fill(b, most)
		for _, between := range []int{b.Last, b.Last + 1, b.Last + 2, (b.Last + most) / 2, most - 1, most} {
			// A look ahead of Last or behind the last tick changes nothing, either.
			if got := impl.Fill(impl.Fill(b, between), most); got != once {
				t.Fatalf("%+v looked at at %d has %+v, else %+v", b, between, got, once)
			}
		}
	}
}

func TestLookedAtByAsksForNothing(t *testing.T) {
	for _, b := range smallBuckets() {
		for now := b.Last; now <= b.Last+8; now++ {
			looked := b
			for between := b.Last; between <= now; between++ {
				ok := false
				if looked, ok = impl.Take(looked, between, 0); !ok {
					t.Fatalf("0 of %+v is refused", looked)
				}
				looked, ok = impl.Take(looked, between, b.Size+1)
				if ok {
					t.Fatalf("more than its size is taken of %+v", looked)
				}
			}
			if once := impl.Fill(b, now); looked != once {
				t.Fatalf("%+v has at %d %+v, and %+v when it is looked at", b, now, once, looked)
			}
		}
	}
}

func TestTakeValues(t *testing.T) {
	b := impl.Bucket{Size: 10, Rate: 3, Per: 4, Has: 5, Part: 2, Last: 100}
	for _, c := range []struct {
		now, n    int
		has, part int
		ok        bool
	}{
		{100, 0, 5, 2, true},
		{100, 5, 0, 2, true},
		{100, 6, 5, 2, false},
		{101, 6, 0, 1, true},
		{101, 7, 6, 1, false},
		{106, 10, 0, 0, true},
		{106, 11, 10, 0, false},
		{most, 1, 9, 0, true},
		{most, most, 10, 0, false},
	} {
		want := impl.Bucket{Size: 10, Rate: 3, Per: 4, Has: c.has, Part: c.part, Last: c.now}
		if got, ok := impl.Take(b, c.now, c.n); got != want || ok != c.ok {
			t.Errorf("%d at %d: %+v, %v, want %+v, %v", c.n, c.now, got, ok, want, c.ok)
		}
	}
}

func TestTakeIsFillAndLess(t *testing.T) {
	for _, b := range slices.Concat(smallBuckets(), greatBuckets()) {
		for _, now := range []int{b.Last, min(b.Last+3, most), most} {
			full := impl.Fill(b, now)
			for _, n := range []int{0, 1, full.Has - 1, full.Has, full.Has + 1, b.Size, b.Size + 1, most} {
				if n < 0 || n > most {
					continue
				}
				want, wantOk := full, n <= full.Has
				if wantOk {
					want.Has -= n
				}
				got, ok := impl.Take(b, now, n)
				if got != want || ok != wantOk {
					t.Fatalf("Take(%+v, %d, %d) = %+v, %v, want %+v, %v", b, now, n, got, ok, want, wantOk)
				}
				if !impl.BucketOk(got) {
					t.Fatalf("Take(%+v, %d, %d) leaves %+v, which is wrong", b, now, n, got)
				}
			}
		}
	}
}

func TestTakeThatIsNotTold(t *testing.T) {
	right := impl.Bucket{Size: most, Rate: 3, Per: 4, Has: most - 5, Part: 2, Last: 100}
	for _, n := range []int{-1, most + 1, math.MaxInt, math.MinInt} {
		for _, now := range []int{100, 101, most} {
			if got, ok := impl.Take(right, now, n); ok || got != right {
				t.Errorf("%d at %d: %+v, %v", n, now, got, ok)
			}
		}
	}
	for _, now := range []int{-1, 0, 99, most + 1, math.MaxInt, math.MinInt} {
		for _, n := range []int{0, 1, -1, most} {
			if got, ok := impl.Take(right, now, n); ok || got != right {
				t.Errorf("%d at %d: %+v, %v", n, now, got, ok)
			}
		}
	}
	for _, b := range wrongBuckets() {
		for _, now := range []int{b.Last, 0, 100, 101, most} {
			for _, n := range []int{0, 1, -1, math.MaxInt, math.MinInt} {
				if got, ok := impl.Take(b, now, n); ok || got != b {
					t.Errorf("%d at %d of a wrong bucket %+v: %+v, %v", n, now, b, got, ok)
				}
			}
		}
	}
}

// TestNoMoreGoesThrough takes what it can get at each tick, and in every stretch counts it against what was there and came.
func TestNoMoreGoesThrough(t *testing.T) {
	const ticks = 10
	for _, first := range smallBuckets() {
		for _, wish := range []int{1, 2, 3} {
			b := first
			var ahead [ticks]impl.Bucket
			var taken [ticks]int
			for tick := range ticks {
				ahead[tick] = b
				for ok := true; ok; {
					if b, ok = impl.Take(b, first.Last+tick, wish); ok {
						taken[tick] += wish
					}
				}
			}
			for from := range ticks {
				sum := 0
				for to := from; to < ticks; to++ {
					sum += taken[to]
					start := ahead[from]
					came := (start.Part + start.Rate*(first.Last+to-start.Last)) / start.Per
					if sum > start.Has+came {
						t.Fatalf("%+v, %d at once: %d went through from %d to %d, it had %d and %d came", first, wish, sum, from, to, start.Has, came)
					}
				}
			}
		}
	}
}

func TestAllThatComesGoesThrough(t *testing.T) {
	// Three in seven ticks, taken one by one: no part of one is lost by looking.
	b := impl.Bucket{Size: 4, Rate: 3, Per: 7, Last: 0}
	taken := 0
	for now := range 7*200 + 1 {
		ok := false
		if b, ok = impl.Take(b, now, 1); ok {
			taken++
		}
	}
	if taken != 600 || b.Has != 0 || b.Part != 0 {
		t.Errorf("%d went through, and %+v is left", taken, b)
	}
}

func TestUntilValues(t *testing.T) {
	b := impl.Bucket{Size: 10, Rate: 3, Per: 4, Has: 5, Part: 2, Last: 100}
	still := impl.Bucket{Size: 10, Per: 4, Has: 5, Part: 2, Last: 100}
	full := impl.Bucket{Size: 10, Rate: 3, Per: 4, Has: 10, Last: 100}
	fullAndStill := impl.Bucket{Size: 10, Per: 4, Has: 10, Last: 100}
	none := impl.Bucket{Rate: 3, Per: 4}
	slow := impl.Bucket{Size: most, Rate: 1, Per: 1000000}
	fast := impl.Bucket{Size: most, Rate: most, Per: 1}
	for _, c := range []struct {
		b       impl.Bucket
		n, want int
	}{
		{b, 0, 0}, {b, 5, 0}, {b, 6, 1}, {b, 7, 2}, {b, 8, 4}, {b, 9, 5}, {b, 10, 6}, {b, 11, -1}, {b, most, -1},
		{still, 0, 0}, {still, 5, 0}, {still, 6, -1}, {still, 10, -1}, {still, 11, -1},
		{full, 0, 0}, {full, 10, 0}, {full, 11, -1},
		{fullAndStill, 10, 0}, {fullAndStill, 11, -1},
		{none, 0, 0}, {none, 1, -1},
		{slow, 1, 1000000}, {slow, most, 1000000000000000},
		{fast, 1, 1}, {fast, most, 1},
	} {
		if got := impl.Until(c.b, c.n); got != c.want {
			t.Errorf("Until(%+v, %d) = %d, want %d", c.b, c.n, got, c.want)
		}
		for _, n := range []int{-1, most + 1, math.MaxInt, math.MinInt} {
			if got := impl.Until(c.b, n); got != -1 {
				t.Errorf("Until(%+v, %d) = %d, want -1", c.b, n, got)
			}
		}
	}
	for _, b := range wrongBuckets() {
		for _, n := range []int{0, 1, 5, 6, -1, most, math.MaxInt, math.MinInt} {
			if got := impl.Until(b, n); got != -1 {
				t.Errorf("Until of a wrong bucket %+v of %d = %d, want -1", b, n, got)
			}
		}
	}
}

func TestUntilIsTheFirstTick(t *testing.T) {
	for _, b := range smallBuckets() {
		for n := range b.Size + 2 {
			want := -1
			for ticks := range 30 {
				if want < 0 && tickByTick(b, b.Last+ticks).Has >= n {
					want = ticks
				}
			}
			if got := impl.Until(b, n); got != want {
				t.Fatalf("Until(%+v, %d) = %d, want %d", b, n, got, want)
			}
		}
	}
}

func TestUntilOfGreatNumbers(t *testing.T) {
	for _, b := range greatBuckets() {
		for _, n := range []int{0, 1, b.Has, b.Has + 1, b.Size / 2, b.Size - 1, b.Size} {
			ticks := impl.Until(b, n)
			switch {
			case n < 0 || n > b.Size || b.Rate == 0 && b.Has < n:
				if ticks != -1 {
					t.Fatalf("Until(%+v, %d) = %d, want -1", b, n, ticks)
				}
			case ticks < 0 || filledByBig(b, b.Last+ticks).Has < n:
				t.Fatalf("Until(%+v, %d) = %d: it has fewer then", b, n, ticks)
			case ticks > 0 && filledByBig(b, b.Last+ticks-1).Has >= n:
				t.Fatalf("Until(%+v, %d) = %d: it has it a tick ahead", b, n, ticks)
			}
		}
	}
}

func TestTakeAllIsTakeOfEach(t *testing.T) {
	asks := []impl.Ask{{Now: 5, N: 1}, {Now: 5, N: 0}, {Now: 6, N: 2}, {Now: 4, N: 0}, {Now: 9, N: 1}, {Now: 9, N: -1}, {Now: most + 1, N: 0}, {Now: 10, N: math.MaxInt}, {Now: 14, N: 3}, {Now: math.MinInt, N: 1}, {Now: 14, N: 1}, {Now: most, N: 1}}
	for _, b := range slices.Concat(smallBuckets(), wrongBuckets()) {
		for size := range len(asks) + 1 {
			want := b
			var wantList []bool
			for _, ask := range asks[:size] {
				ok := false
				want, ok = impl.Take(want, ask.Now, ask.N)
				wantList = append(wantList, ok)
			}
			if got, list := impl.TakeAll(b, asks[:size]); got != want || !slices.Equal(list, wantList) {
				t.Fatalf("%d asks of %+v: %+v, %v, want %+v, %v", size, b, got, list, want, wantList)
			}
		}
	}
}

func TestTakeAllOfTooMany(t *testing.T) {
	b := impl.Bucket{Size: 1000, Rate: 1, Per: 2, Has: 250}
	asks := make([]impl.Ask, 301)
	for i := range asks {
		asks[i] = impl.Ask{Now: 1, N: 1}
	}
	got, list := impl.TakeAll(b, asks[:300])
	if len(list) != 300 || got != (impl.Bucket{Size: 1000, Rate: 1, Per: 2, Part: 1, Last: 1}) {
		t.Errorf("300 asks: %+v, %d answers", got, len(list))
	}
	for i, ok := range list {
		if ok != (i < 250) {
			t.Fatalf("ask %d of 300: %v", i, ok)
		}
	}
	if got, list := impl.TakeAll(b, asks); got != b || len(list) != 0 {
		t.Errorf("301 asks: %+v, %d answers", got, len(list))
	}
	if got, list := impl.TakeAll(b, make([]impl.Ask, 100000)); got != b || len(list) != 0 {
		t.Errorf("100000 asks: %+v, %d answers", got, len(list))
	}
	if got, list := impl.TakeAll(b, nil); got != b || len(list) != 0 {
		t.Errorf("no asks: %+v, %d answers", got, len(list))
	}
}

func TestTakeAllWritesIntoNothing(t *testing.T) {
	b := impl.Bucket{Size: 3, Rate: 1, Per: 2, Has: 3, Last: 5}
	room := []impl.Ask{{Now: 5, N: 1}, {Now: 6, N: 1}, {Now: 4, N: 9}, {Now: 7, N: -7}, {Now: 8, N: 2}}
	kept := slices.Clone(room)
	first, list := impl.TakeAll(b, room[:3])
	for i := range list {
		list[i] = !list[i]
	}
	again, other := impl.TakeAll(b, room[:3])
	if !slices.Equal(room, kept) {
		t.Errorf("the asks are %v, they were %v", room, kept)
	}
	if again != first || !slices.Equal(other, []bool{true, true, false}) {
		t.Errorf("asked again: %+v, %v", again, other)
	}
}
