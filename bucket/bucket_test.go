package bucket_test

import (
	"math"
	"math/big"
	"math/rand"
	"strconv"
	"testing"

	"footman/api"
	"footman/bucket"
)

const lastTick = 1099511627776

// far are numbers that no part of a bucket may have, to both ends of what an int can tell.
var far = []int{
	math.MinInt, math.MinInt + 1, -1 << 62, -lastTick - 1, -lastTick, -1<<32 - 1, -1 << 32, -1<<32 + 1, -1001, -1000, -7, -2,
	lastTick + 2, lastTick + 1000, 2 * lastTick, 1<<62 + 1, 1 << 62, math.MaxInt - 1, math.MaxInt,
}

func of(burst, rate, per, level, now int) bucket.Bucket {
	return bucket.Bucket{Burst: burst, Rate: rate, Per: per, Level: level, Now: now}
}

func show(b bucket.Bucket) string {
	s := "{"
	for _, n := range []int{b.Burst, b.Rate, b.Per, b.Level, b.Now} {
		s += " " + strconv.Itoa(n)
	}
	return s + " }"
}

// lies tells whether a number is from a least to a greatest one, all of them without range.
func lies(n int, least int64, greatest *big.Int) bool {
	x := big.NewInt(int64(n))
	return x.Cmp(big.NewInt(least)) >= 0 && x.Cmp(greatest) <= 0
}

func product(a, b int) *big.Int {
	return new(big.Int).Mul(big.NewInt(int64(a)), big.NewInt(int64(b)))
}

func modelCheck(b bucket.Bucket) api.Errno {
	thousand := big.NewInt(1000)
	if lies(b.Burst, 1, thousand) && lies(b.Rate, 0, thousand) && lies(b.Per, 1, thousand) &&
		lies(b.Level, 0, product(b.Burst, b.Per)) && lies(b.Now, 0, big.NewInt(lastTick)) {
		return 0
	}
	return 8
}

func modelHas(b bucket.Bucket) int {
	n := 0
	if modelCheck(b) != 0 {
		return n
	}
	for left := b.Level; left >= b.Per; left -= b.Per {
		n++
	}
	return n
}

func modelAt(b bucket.Bucket, tick int) bucket.Bucket {
	if modelCheck(b) != 0 || tick <= b.Now || tick > lastTick {
		return b
	}
	level := product(b.Rate, tick-b.Now)
	level.Add(level, big.NewInt(int64(b.Level)))
	if whole := product(b.Burst, b.Per); level.Cmp(whole) > 0 {
		level = whole
	}
	return of(b.Burst, b.Rate, b.Per, int(level.Int64()), tick)
}

func modelTake(b bucket.Bucket, tick int) (bucket.Bucket, bool) {
	b = modelAt(b, tick)
	if modelHas(b) == 0 {
		return b, false
	}
	return of(b.Burst, b.Rate, b.Per, b.Level-b.Per, b.Now), true
}

// modelWait tries one tick behind the other: a token has at most 1000 parts, so behind as many it is there, or never comes.
func modelWait(b bucket.Bucket, tick int) int {
	b = modelAt(b, tick)
	for n := 0; n <= 1000 && modelCheck(b) == 0 && b.Now+n <= lastTick; n++ {
		if modelHas(modelAt(b, b.Now+n)) > 0 {
			return n
		}
	}
	return -1
}

func wantCheck(t *testing.T, b bucket.Bucket, want api.Errno) {
	t.Helper()
	if e := bucket.Check(b); e != want {
		t.Errorf("Check(%s) = %d, want %d", show(b), e, want)
	}
}

func wantNew(t *testing.T, burst, rate, per int, want bucket.Bucket) {
	t.Helper()
	if b, e := bucket.New(burst, rate, per); b != want || e != 0 {
		t.Errorf("New(%d, %d, %d) = %s, %d, want %s", burst, rate, per, show(b), e, show(want))
	}
}

// wantNotNew holds that there is no such bucket: what is answered is nothing.
func wantNotNew(t *testing.T, burst, rate, per int) {
	t.Helper()
	if b, e := bucket.New(burst, rate, per); b != (bucket.Bucket{}) || e != 8 {
		t.Errorf("New(%d, %d, %d) = %s, %d, want nothing, and 8", burst, rate, per, show(b), e)
	}
}

func wantHas(t *testing.T, b bucket.Bucket, want int) {
	t.Helper()
	if n := bucket.Has(b); n != want {
		t.Errorf("Has(%s) = %d, want %d", show(b), n, want)
	}
}

func wantAt(t *testing.T, b bucket.Bucket, tick int, want bucket.Bucket) {
	t.Helper()
	came := b
	for range 2 { // what it answers hangs on nothing else
		if x := bucket.At(came, tick); x != want {
			t.Errorf("At(%s, %d) = %s, want %s", show(b), tick, show(x), show(want))
		}
	}
	if came != b {
		t.Errorf("At(%s, %d) changed what came in: %s", show(b), tick, show(came))
	}
}

func wantTaking(t *testing.T, b bucket.Bucket, tick int, want bucket.Bucket, wantIs bool) {
	t.Helper()
	came := b
	for range 2 {
		if x, is := bucket.Take(came, tick); x != want || is != wantIs {
			t.Errorf("Take(%s, %d) = %s, %t, want %s, %t", show(b), tick, show(x), is, show(want), wantIs)
		}
	}
	if came != b {
		t.Errorf("Take(%s, %d) changed what came in: %s", show(b), tick, show(came))
	}
}

// wantTake holds that there is a token, and what is left.
func wantTake(t *testing.T, b bucket.Bucket, tick, level, now int) {
	t.Helper()
	wantTaking(t, b, tick, of(b.Burst, b.Rate, b.Per, level, now), true)
}

// wantNoToken holds that there is none, and what stands there then.
func wantNoToken(t *testing.T, b bucket.Bucket, tick, level, now int) {
	t.Helper()
	wantTaking(t, b, tick, of(b.Burst, b.Rate, b.Per, level, now), false)
}

func wantWait(t *testing.T, b bucket.Bucket, tick, want int) {
	t.Helper()
	came := b
	for range 2 {
		if n := bucket.Wait(came, tick); n != want {
			t.Errorf("Wait(%s, %d) = %d, want %d", show(b), tick, n, want)
		}
	}
	if came != b {
		t.Errorf("Wait(%s, %d) changed what came in: %s", show(b), tick, show(came))
	}
}

// parts sets one part of a bucket, and tells its bounds where the others stay as in usual.
var parts = []struct {
	name            string
	set             func(b bucket.Bucket, n int) bucket.Bucket
	least, greatest int
}{
	{"Burst", func(b bucket.Bucket, n int) bucket.Bucket { b.Burst = n; return b }, 1, 1000},
	{"Rate", func(b bucket.Bucket, n int) bucket.Bucket { b.Rate = n; return b }, 0, 1000},
	{"Per", func(b bucket.Bucket, n int) bucket.Bucket { b.Per = n; return b }, 1, 1000},
	{"Level", func(b bucket.Bucket, n int) bucket.Bucket { b.Level = n; return b }, 0, 35},
	{"Now", func(b bucket.Bucket, n int) bucket.Bucket { b.Now = n; return b }, 0, lastTick},
}

// usual may be, with each of Burst and Per from 1 on: it has no level.
var usual = of(5, 3, 7, 0, 9)

// refused are buckets that may not be: by one part alone, or by two; most of them would have tokens.
func refused() []bucket.Bucket {
	var l []bucket.Bucket
	for _, from := range []bucket.Bucket{usual, of(1, 0, 1, 1, 0), of(1000, 1000, 1000, 1000000, lastTick), of(5, 3, 7, 35, 9), of(2, 1, 10, 19, 100)} {
		for i, p := range parts {
			greatest := p.greatest
			if p.name == "Level" {
				greatest = from.Burst * from.Per
			}
			wrong := []int{p.least - 1, p.least - 2, greatest + 1, greatest + 2, math.MinInt, math.MaxInt, -1 << 32, 1 << 62}
			for _, n := range wrong {
				l = append(l, p.set(from, n))
				for _, q := range parts[i+1:] {
					l = append(l, q.set(p.set(from, n), q.least-1), q.set(p.set(from, n), math.MaxInt))
				}
			}
		}
	}
	return append(l, bucket.Bucket{}, of(-1, 0, -1, 1, 0), of(-5, 3, -7, 35, 9), of(1<<32, 1, 1<<32, 0, 0), of(5, 3, 1, 6, 9), of(1, 3, 7, 8, 9), of(4, 3, 7, 35, 9))
}

// edges are buckets that may be, each part at its bounds, next to them, and between.
func edges() []bucket.Bucket {
	var l []bucket.Bucket
	for _, burst := range []int{1, 2, 999, 1000} {
		for _, rate := range []int{0, 1, 2, 7, 999, 1000} {
			for _, per := range []int{1, 2, 3, 10, 999, 1000} {
				met := map[int]int{}
				for _, level := range []int{0, 1, per - 1, per, per + 1, burst*per - 1, burst * per} {
					met[level]++
					if level > burst*per || met[level] > 1 {
						continue
					}
					for _, now := range []int{0, 1, 100, lastTick - 999, lastTick - 1, lastTick} {
						l = append(l, of(burst, rate, per, level, now))
					}
				}
			}
		}
	}
	return l
}

// ticks are those near a bucket's own, near the bounds, and far outside.
func ticks(b bucket.Bucket) []int {
	return []int{
		math.MinInt, math.MinInt + 1, -lastTick, -1, 0, 1, b.Now - 2, b.Now - 1, b.Now, b.Now + 1, b.Now + 2, b.Now + 5, b.Now + 143, b.Now + 1000, b.Now + 1<<32,
		lastTick - 1, lastTick, lastTick + 1, lastTick + 2, 2 * lastTick, 1 << 62, math.MaxInt - 1, math.MaxInt,
	}
}

func TestP21_1CheckOfEachPartAlone(t *testing.T) {
	wantCheck(t, usual, api.OK)
	for _, p := range parts {
		for _, n := range []int{p.least, p.least + 1, (p.least + p.greatest) / 2, p.greatest - 1, p.greatest} {
			wantCheck(t, p.set(usual, n), api.OK)
		}
		for _, n := range []int{p.least - 1, p.least - 2, p.greatest + 1, p.greatest + 2} {
			wantCheck(t, p.set(usual, n), api.ErrRange)
		}
		for _, n := range far {
			wantCheck(t, p.set(usual, n), api.ErrRange)
		}
	}
	for n := -5; n <= 1005; n++ {
		wrong := map[bool]api.Errno{false: api.ErrRange, true: api.OK}
		wantCheck(t, of(n, 3, 7, 0, 9), wrong[n >= 1 && n <= 1000])
		wantCheck(t, of(5, n, 7, 35, 9), wrong[n >= 0 && n <= 1000])
		wantCheck(t, of(5, 3, n, 0, 9), wrong[n >= 1 && n <= 1000])
		wantCheck(t, of(5, 3, 7, n, 9), wrong[n >= 0 && n <= 35])
	}
}

func TestP21_1CheckOfNothing(t *testing.T) {
	wantCheck(t, bucket.Bucket{}, api.ErrRange)
}

func TestP21_1CheckOfALevelAtTheBrim(t *testing.T) {
	for _, burst := range []int{1, 2, 3, 10, 500, 999, 1000} {
		for _, per := range []int{1, 2, 3, 10, 500, 999, 1000} {
			for _, now := range []int{0, 9, lastTick} {
				whole := burst * per
				wantCheck(t, of(burst, 1, per, whole-1, now), api.OK)
				wantCheck(t, of(burst, 0, per, whole, now), api.OK)
				for _, above := range []int{1, 2, burst, per, 1 << 32, math.MaxInt - whole} {
					wantCheck(t, of(burst, 1, per, whole+above, now), api.ErrRange)
				}
			}
		}
	}
}

// Their product is one that a Level may be at, or leaves an int's range to come back near 0; but each of them is wrong.
func TestP21_1CheckOfBurstAndPerThatAreWrongTogether(t *testing.T) {
	for _, n := range [][2]int{{-1, -1}, {-5, -7}, {-1000, -1000}, {math.MinInt, math.MinInt}, {1 << 32, 1 << 32}, {1 << 62, 4}, {4, 1 << 62}, {math.MaxInt, math.MaxInt}, {1<<32 + 1, 1<<32 + 1}, {math.MaxInt, -1}, {1, 1001}, {1001, 1}, {500, 2000}, {2000, 500}} {
		for _, level := range []int{0, 1, 35, 1000000} {
			wantCheck(t, of(n[0], 1, n[1], level, 0), api.ErrRange)
		}
	}
}

func TestP21_1CheckOfSeveralPartsTogether(t *testing.T) {
	most := []int{math.MinInt, -1 << 32, -1, 0, 1, 2, 35, 999, 1000, 1001, 1 << 32, math.MaxInt}
	right := 0
	for _, burst := range most {
		for _, rate := range most {
			for _, per := range most {
				for _, level := range []int{math.MinInt, -1, 0, 1, burst*per - 1, burst * per, burst*per + 1, 1000000, math.MaxInt} {
					for _, now := range []int{math.MinInt, -1, 0, 1, lastTick - 1, lastTick, lastTick + 1, math.MaxInt} {
						b := of(burst, rate, per, level, now)
						want := modelCheck(b)
						if want == 0 {
							right++
						}
						if e := bucket.Check(b); e != want {
							t.Errorf("Check(%s) = %d, want %d", show(b), e, want)
						}
					}
				}
			}
		}
	}
	if right < 1000 {
		t.Errorf("%d of them were right", right)
	}
}

func TestP21_1CheckOfTheRefused(t *testing.T) {
	for _, b := range refused() {
		wantCheck(t, b, api.ErrRange)
	}
}

func TestP21_1NewIsFullAtTheTickNought(t *testing.T) {
	wantNew(t, 2, 1, 10, bucket.Bucket{Burst: 2, Rate: 1, Per: 10, Level: 20, Now: 0})
	wantNew(t, 1, 0, 1, bucket.Bucket{Burst: 1, Rate: 0, Per: 1, Level: 1, Now: 0})
	wantNew(t, 3, 2, 5, bucket.Bucket{Burst: 3, Rate: 2, Per: 5, Level: 15, Now: 0})
	wantNew(t, 5, 3, 2, bucket.Bucket{Burst: 5, Rate: 3, Per: 2, Level: 10, Now: 0})
	wantNew(t, 1000, 1000, 1000, bucket.Bucket{Burst: 1000, Rate: 1000, Per: 1000, Level: 1000000, Now: 0})
	for _, burst := range []int{1, 2, 3, 500, 999, 1000} {
		for _, rate := range []int{0, 1, 2, 500, 999, 1000} {
			for _, per := range []int{1, 2, 3, 500, 999, 1000} {
				wantNew(t, burst, rate, per, of(burst, rate, per, burst*per, 0))
				b, _ := bucket.New(burst, rate, per)
				wantCheck(t, b, api.OK)
				wantHas(t, b, burst)
			}
		}
	}
}

func TestP21_1NewOfEachAlone(t *testing.T) {
	wrong := append([]int{-1, 1001, 1002, 2000, 1 << 32}, far...)
	for _, n := range wrong {
		wantNotNew(t, n, 3, 7)
		wantNotNew(t, 5, n, 7)
		wantNotNew(t, 5, 3, n)
		wantNotNew(t, n, 1000, 1000)
		wantNotNew(t, 1, n, 1)
		wantNotNew(t, 1, 0, n)
	}
	for _, n := range []int{1, 5, 1000} {
		wantNotNew(t, 0, n, n)
		wantNotNew(t, n, n, 0)
		wantNew(t, n, 0, n, of(n, 0, n, n*n, 0))
	}
}

func TestP21_1NewOfSeveralTogether(t *testing.T) {
	most := []int{math.MinInt, math.MinInt + 1, -1 << 62, -1 << 32, -1000, -1, 0, 1, 2, 999, 1000, 1001, 1<<32 - 1, 1 << 32, 1<<32 + 1, 1 << 62, math.MaxInt - 1, math.MaxInt}
	for _, burst := range most {
		for _, rate := range most {
			for _, per := range most {
				if burst >= 1 && burst <= 1000 && rate >= 0 && rate <= 1000 && per >= 1 && per <= 1000 {
					wantNew(t, burst, rate, per, of(burst, rate, per, burst*per, 0))
				} else {
					wantNotNew(t, burst, rate, per)
				}
			}
		}
	}
}

func TestP21_1Has(t *testing.T) {
	for _, per := range []int{1, 2, 3, 10, 999, 1000} {
		for _, now := range []int{0, 9, lastTick} {
			wantHas(t, of(4, 1, per, 0, now), 0)
			wantHas(t, of(4, 1, per, per-1, now), 0)
			wantHas(t, of(4, 1, per, per, now), 1)
			wantHas(t, of(4, 1, per, 2*per-1, now), 1)
			wantHas(t, of(4, 1, per, 2*per, now), 2)
			wantHas(t, of(4, 0, per, 4*per-1, now), 3)
			wantHas(t, of(4, 0, per, 4*per, now), 4)
			wantHas(t, of(1, 1, per, per, now), 1)
			wantHas(t, of(1000, 1, per, 1000*per-1, now), 999)
			wantHas(t, of(1000, 1, per, 1000*per, now), 1000)
		}
	}
	wantHas(t, of(4, 1, 10, 11, 0), 1) // one part more than a token
	wantHas(t, of(4, 1, 1, 1, 0), 1)
	wantHas(t, of(4, 1, 2, 1, 0), 0)
	for level := range 36 {
		wantHas(t, of(5, 3, 7, level, 9), []int{0, 1, 2, 3, 4, 5}[level/7])
	}
	for _, b := range edges() {
		wantHas(t, b, modelHas(b))
	}
}

func TestP21_1HasOfARefusedBucket(t *testing.T) {
	for _, b := range refused() {
		wantHas(t, b, 0)
	}
	wantHas(t, of(5, 3, 7, 36, 9), 0)
	wantHas(t, of(5, 3, 7, 35, -1), 0)
	wantHas(t, of(5, 3, 7, 35, lastTick+1), 0)
	wantHas(t, of(5, -1, 7, 35, 9), 0)
	wantHas(t, of(5, 3, 0, 0, 9), 0)
}

func TestP21_2AtATickThatIsNotBehind(t *testing.T) {
	for _, b := range []bucket.Bucket{of(2, 1, 10, 7, 100), of(2, 1, 10, 0, 0), of(5, 3, 7, 35, 9), of(1, 1000, 1000, 1, lastTick), of(1, 0, 1, 0, 5)} {
		for _, tick := range []int{b.Now, b.Now - 1, b.Now - 2, 0, -1, -1000, -lastTick, -1 << 62, math.MinInt + 1, math.MinInt} {
			if tick <= b.Now {
				wantAt(t, b, tick, b)
			}
		}
	}
}

func TestP21_2AtATickBehind(t *testing.T) {
	b := of(2, 1, 10, 7, 100)
	wantAt(t, b, 101, of(2, 1, 10, 8, 101))
	wantAt(t, b, 102, of(2, 1, 10, 9, 102))
	wantAt(t, b, 103, of(2, 1, 10, 10, 103))
	wantAt(t, b, 112, of(2, 1, 10, 19, 112))
	wantAt(t, b, 113, of(2, 1, 10, 20, 113)) // just full
	wantAt(t, b, 114, of(2, 1, 10, 20, 114)) // and one part more would come
	wantAt(t, b, 115, of(2, 1, 10, 20, 115))
	wantAt(t, b, 1000000, of(2, 1, 10, 20, 1000000))
	wantAt(t, of(5, 3, 7, 4, 9), 10, of(5, 3, 7, 7, 10))
	wantAt(t, of(5, 3, 7, 4, 9), 14, of(5, 3, 7, 19, 14))
	wantAt(t, of(5, 3, 7, 31, 9), 10, of(5, 3, 7, 34, 10))
	wantAt(t, of(5, 3, 7, 32, 9), 10, of(5, 3, 7, 35, 10))
	wantAt(t, of(5, 3, 7, 33, 9), 10, of(5, 3, 7, 35, 10))
	wantAt(t, of(5, 3, 7, 35, 9), 10, of(5, 3, 7, 35, 10))
}

func TestP21_2AtTheLastTicks(t *testing.T) {
	b := of(1000, 2, 1000, 10, lastTick-7)
	wantAt(t, b, lastTick-1, of(1000, 2, 1000, 22, lastTick-1))
	wantAt(t, b, lastTick, of(1000, 2, 1000, 24, lastTick))
	for _, b := range []bucket.Bucket{b, of(2, 1, 10, 7, 0), of(1, 0, 1, 0, lastTick), of(1000, 1000, 1000, 0, 0)} {
		for _, tick := range []int{lastTick + 1, lastTick + 2, lastTick + 1000, 2 * lastTick, 1 << 62, math.MaxInt - 1, math.MaxInt} {
			wantAt(t, b, tick, b)
		}
	}
}

// What would come leaves no range, however long it takes.
func TestP21_2AtFarBehind(t *testing.T) {
	wantAt(t, of(1000, 1000, 1000, 0, 0), lastTick, of(1000, 1000, 1000, 1000000, lastTick))
	wantAt(t, of(1000, 1000, 1000, 1000000, 0), lastTick, of(1000, 1000, 1000, 1000000, lastTick))
	wantAt(t, of(1, 1000, 1, 0, 0), lastTick, of(1, 1000, 1, 1, lastTick))
	wantAt(t, of(1, 1, 1, 0, 1), lastTick, of(1, 1, 1, 1, lastTick))
	wantAt(t, of(1, 1000, 1, 0, 0), 1<<32, of(1, 1000, 1, 1, 1<<32))
	for bits := range 41 {
		for _, rate := range []int{1, 999, 1000} {
			wantAt(t, of(1, rate, 1, 0, 0), 1<<bits, of(1, rate, 1, 1, 1<<bits))
			wantAt(t, of(1000, rate, 1000, 0, 0), 1<<bits, of(1000, rate, 1000, min(rate<<bits, 1000000), 1<<bits))
		}
	}
}

func TestP21_2AtOfARateOfNought(t *testing.T) {
	for _, level := range []int{0, 1, 9, 10, 19, 20} {
		for _, tick := range []int{6, 7, 100, lastTick - 1, lastTick} {
			wantAt(t, of(2, 0, 10, level, 5), tick, of(2, 0, 10, level, tick))
		}
		wantAt(t, of(2, 0, 10, level, 5), 4, of(2, 0, 10, level, 5))
		wantAt(t, of(2, 0, 10, level, 5), lastTick+1, of(2, 0, 10, level, 5))
	}
}

func TestP21_2AtOfARefusedBucket(t *testing.T) {
	for _, b := range refused() {
		for _, tick := range ticks(b) {
			wantAt(t, b, tick, b)
		}
	}
}

func TestP21_2AtAgainstTheModel(t *testing.T) {
	for _, b := range edges() {
		for _, tick := range ticks(b) {
			wantAt(t, b, tick, modelAt(b, tick))
		}
	}
}

// small are all buckets of few tokens of few parts, at some ticks.
func small() []bucket.Bucket {
	var l []bucket.Bucket
	for burst := 1; burst <= 3; burst++ {
		for per := 1; per <= 5; per++ {
			for rate := range 7 {
				for level := range burst*per + 1 {
					for _, now := range []int{0, 7, lastTick - 4} {
						l = append(l, of(burst, rate, per, level, now))
					}
				}
			}
		}
	}
	return l
}

// step lets one tick go by, part by part.
func step(b bucket.Bucket) bucket.Bucket {
	for range b.Rate {
		if b.Level < b.Burst*b.Per {
			b.Level++
		}
	}
	b.Now++
	return b
}

func TestP21_2AtIsAStepForEachTick(t *testing.T) {
	for _, b := range small() {
		x := b
		for x.Now < min(b.Now+20, lastTick) {
			wantAt(t, b, x.Now, x)
			x = step(x)
		}
		wantAt(t, b, x.Now, x)
	}
}

func TestP21_2Example(t *testing.T) {
	b, _ := bucket.New(2, 1, 10)
	one, is := bucket.Take(b, 0)
	two, too := bucket.Take(one, 0)
	if !is || !too || one != of(2, 1, 10, 10, 0) || two != of(2, 1, 10, 0, 0) {
		t.Errorf("two tokens: %s, %t, %s, %t", show(one), is, show(two), too)
	}
	wantNoToken(t, two, 0, 0, 0)
	wantWait(t, two, 0, 10)
}

func TestP21_2TakeWhereNoTimeGoesOn(t *testing.T) {
	for _, tick := range []int{100, 99, 98, 0, -1, -lastTick, math.MinInt + 1, math.MinInt, lastTick + 1, lastTick + 2, 1 << 62, math.MaxInt - 1, math.MaxInt} {
		wantNoToken(t, of(3, 1, 10, 0, 100), tick, 0, 100)
		wantNoToken(t, of(3, 1, 10, 1, 100), tick, 1, 100)
		wantNoToken(t, of(3, 1, 10, 9, 100), tick, 9, 100) // one part lacks
		wantTake(t, of(3, 1, 10, 10, 100), tick, 0, 100)   // just a token
		wantTake(t, of(3, 1, 10, 11, 100), tick, 1, 100)
		wantTake(t, of(3, 1, 10, 20, 100), tick, 10, 100)
		wantTake(t, of(3, 1, 10, 29, 100), tick, 19, 100)
		wantTake(t, of(3, 1, 10, 30, 100), tick, 20, 100)
		wantTake(t, of(3, 0, 10, 30, 100), tick, 20, 100)
		wantNoToken(t, of(3, 0, 10, 9, 100), tick, 9, 100)
	}
}

func TestP21_2TakeWhereTimeGoesOn(t *testing.T) {
	b := of(3, 2, 10, 3, 100)
	wantNoToken(t, b, 101, 5, 101)
	wantNoToken(t, b, 102, 7, 102)
	wantNoToken(t, b, 103, 9, 103) // one tick ahead
	wantTake(t, b, 104, 1, 104)    // a token has just come
	wantTake(t, b, 105, 3, 105)
	wantTake(t, b, 108, 9, 108)
	wantTake(t, b, 113, 19, 113)
	wantTake(t, b, 114, 20, 114) // it is full ahead of the taking
	wantTake(t, b, 5000, 20, 5000)
	wantTake(t, b, lastTick, 20, lastTick)
	wantNoToken(t, b, lastTick+1, 3, 100)
	wantTake(t, of(1, 1000, 1, 0, 0), 1, 0, 1)
	wantTake(t, of(1, 1000, 1000, 0, 0), lastTick, 0, lastTick)
	wantNoToken(t, of(1, 999, 1000, 0, 0), 1, 999, 1)
	wantTake(t, of(1, 999, 1000, 1, 0), 1, 0, 1)
	wantNoToken(t, of(2, 0, 10, 9, 5), 77, 9, 77) // the time goes on all the same
	wantTake(t, of(2, 0, 10, 10, 5), 77, 0, 77)
}

func TestP21_2TakeOneBehindTheOther(t *testing.T) {
	for _, burst := range []int{1, 2, 3, 17, 1000} {
		for _, per := range []int{1, 2, 10, 1000} {
			b, _ := bucket.New(burst, 1, per)
			for i := range burst {
				wantTake(t, b, 0, (burst-i-1)*per, 0)
				b, _ = bucket.Take(b, 0)
			}
			wantNoToken(t, b, 0, 0, 0)
		}
	}
}

func TestP21_2TakeOfARefusedBucket(t *testing.T) {
	for _, b := range refused() {
		for _, tick := range ticks(b) {
			wantTaking(t, b, tick, b, false)
		}
	}
}

func TestP21_2TakeAgainstTheModel(t *testing.T) {
	taken, not := 0, 0
	for _, b := range edges() {
		for _, tick := range ticks(b) {
			want, is := modelTake(b, tick)
			wantTaking(t, b, tick, want, is)
			if is {
				taken++
			} else {
				not++
			}
		}
	}
	if taken < 1000 || not < 1000 {
		t.Errorf("%d were taken, %d were not", taken, not)
	}
}

// A Take is what At tells, less a token or not.
func TestP21_2TakeIsAt(t *testing.T) {
	for _, b := range small() {
		for tick := b.Now - 2; tick < b.Now+10; tick++ {
			want := bucket.At(b, tick)
			is := bucket.Has(want) > 0
			if is {
				want.Level -= want.Per
			}
			wantTaking(t, b, tick, want, is)
		}
	}
}

func TestP21_3WaitWhereThereIsAToken(t *testing.T) {
	for _, rate := range []int{0, 1, 3, 1000} {
		for _, level := range []int{10, 11, 19, 20} {
			for _, now := range []int{0, 100, lastTick - 1, lastTick} {
				for _, tick := range []int{0, now - 1, now, now + 1, now + 1000, lastTick, lastTick + 1, -1, math.MinInt, math.MaxInt} {
					wantWait(t, of(2, rate, 10, level, now), tick, 0)
				}
			}
		}
	}
	wantWait(t, of(1, 0, 1, 1, 5), 5, 0)
	wantWait(t, of(2, 2, 10, 3, 100), 104, 0) // one has just come
	wantWait(t, of(2, 2, 10, 3, 100), 105, 0)
	wantWait(t, of(2, 2, 10, 3, 100), lastTick, 0)
}

func TestP21_3WaitIsRoundedUp(t *testing.T) {
	for _, x := range []struct{ rate, per, level, want int }{
		{1, 10, 9, 1}, {1, 10, 0, 10}, {1, 10, 5, 5}, {1, 1, 0, 1}, {1, 1000, 0, 1000}, {1, 1000, 999, 1}, // by one part
		{2, 10, 0, 5}, {5, 10, 0, 2}, {10, 10, 0, 1}, {2, 10, 4, 3}, {5, 10, 5, 1}, {3, 10, 1, 3}, {250, 1000, 500, 2}, // a divisor
		{3, 10, 0, 4}, {3, 10, 9, 1}, {3, 10, 8, 1}, {3, 10, 7, 1}, {3, 10, 6, 2}, {4, 10, 1, 3}, {4, 10, 0, 3}, {7, 10, 0, 2}, {9, 10, 0, 2}, {9, 10, 1, 1}, {999, 1000, 0, 2}, {999, 1000, 1, 1}, {501, 1000, 0, 2}, {499, 1000, 0, 3}, // none
		{11, 10, 0, 1}, {11, 10, 9, 1}, {19, 10, 1, 1}, {1000, 10, 0, 1}, {1000, 1, 0, 1}, {1000, 999, 0, 1}, // above Per
	} {
		for _, burst := range []int{1, 2, 1000} {
			for _, now := range []int{0, 100, lastTick - x.want} {
				b := of(burst, x.rate, x.per, x.level, now)
				wantWait(t, b, now, x.want)
				wantWait(t, b, now-1, x.want) // a tick ahead of Now is Now
				wantWait(t, b, 0, x.want)
				wantWait(t, b, math.MinInt, x.want)
				wantWait(t, b, lastTick+1, x.want) // nor does time go on to it
				wantWait(t, b, math.MaxInt, x.want)
				for i := range x.want + 1 {
					wantWait(t, b, now+i, x.want-i)
				}
			}
		}
	}
}

func TestP21_3WaitOfARateOfNought(t *testing.T) {
	for _, level := range []int{0, 1, 5, 9} {
		for _, now := range []int{0, 100, lastTick} {
			for _, tick := range []int{math.MinInt, 0, now - 1, now, now + 1, lastTick, lastTick + 1, math.MaxInt} {
				wantWait(t, of(2, 0, 10, level, now), tick, -1)
				wantWait(t, of(2, 0, 10, level+10, now), tick, 0)
			}
		}
	}
}

func TestP21_3WaitToTheLastTick(t *testing.T) {
	for _, n := range []int{1, 2, 5, 10, 999, 1000} {
		for _, tick := range []int{0, lastTick - n - 1, lastTick + 1, math.MinInt, math.MaxInt} {
			wantWait(t, of(1, 1, n, 0, lastTick-n-1), tick, n)
		}
		wantWait(t, of(1, 1, n, 0, lastTick-n), lastTick-n, n) // it ends just at MaxTick
		wantWait(t, of(1, 1, n, 0, lastTick-n), 0, n)
		for _, tick := range []int{0, lastTick - n, lastTick - n + 1, lastTick + 1, math.MinInt, math.MaxInt} {
			wantWait(t, of(1, 1, n, 0, lastTick-n+1), tick, -1) // one behind it
		}
		wantWait(t, of(1, 1, n, 0, lastTick), lastTick, -1)
		wantWait(t, of(1, 1, n, 0, lastTick-n), lastTick, 0)
		wantWait(t, of(1, 1, n, 0, lastTick-n+1), lastTick, -1)
		wantWait(t, of(1, 1000, n, 0, lastTick-1), 0, 1)
		wantWait(t, of(1, 1000, n, 0, lastTick), 0, -1)
		wantWait(t, of(1, 1000, n, n, lastTick), 0, 0)
	}
	wantWait(t, of(1, 3, 10, 0, lastTick-4), 7, 4) // rounded up
	wantWait(t, of(1, 3, 10, 0, lastTick-3), 7, -1)
}

func TestP21_3WaitOfARefusedBucket(t *testing.T) {
	for _, b := range refused() {
		for _, tick := range ticks(b) {
			wantWait(t, b, tick, -1)
		}
	}
}

func TestP21_3WaitAgainstTheModel(t *testing.T) {
	for _, b := range small() {
		for tick := b.Now - 3; tick < b.Now+10; tick++ {
			wantWait(t, b, tick, modelWait(b, tick))
		}
	}
	for i, b := range edges() {
		for j, tick := range ticks(b) {
			if (i+j)%7 == 0 { // a long wait is slow to try
				wantWait(t, b, tick, modelWait(b, tick))
			}
		}
	}
}

// atMost is a number from least to greatest, at an edge now and then.
func atMost(r *rand.Rand, least, greatest int) int {
	switch r.Intn(6) {
	case 0:
		return least
	case 1:
		return greatest
	case 2:
		return min(greatest, least+r.Intn(12))
	}
	return least + r.Intn(greatest-least+1)
}

// anyBucket is one that may be, of any making.
func anyBucket(r *rand.Rand) bucket.Bucket {
	most := []int{4, 30, 1000}[r.Intn(3)]
	b := of(atMost(r, 1, most), atMost(r, 0, most), atMost(r, 1, most), 0, atMost(r, 0, lastTick))
	b.Level = atMost(r, 0, b.Burst*b.Per)
	return b
}

// nextTick is mostly the same one, or a little behind; now and then far behind, ahead, or outside.
func nextTick(r *rand.Rand, b bucket.Bucket) int {
	switch r.Intn(20) {
	case 0:
		return b.Now - r.Intn(100)
	case 1:
		return far[r.Intn(len(far))]
	case 2:
		return b.Now + r.Intn(1<<r.Intn(20))
	case 3, 4, 5, 6:
		return b.Now + 1
	case 7, 8:
		return b.Now + r.Intn(5)
	}
	return b.Now
}

// took is how many tokens were taken at a tick.
type took struct{ tick, n int }

// tries takes at many ticks, and tells what was taken at which, in order.
func tries(t *testing.T, r *rand.Rand, b bucket.Bucket, many int) []took {
	t.Helper()
	var l []took
	for range many {
		ahead, tick := b, nextTick(r, b)
		got, is := bucket.Take(b, tick)
		want, wantIs := modelTake(b, tick)
		if got != want || is != wantIs || b != ahead {
			t.Fatalf("Take(%s, %d) = %s, %t, want %s, %t", show(ahead), tick, show(got), is, show(want), wantIs)
		}
		b = got
		if bucket.Check(b) != api.OK || b.Now < ahead.Now {
			t.Fatalf("Take(%s, %d) = %s, which may not be", show(ahead), tick, show(b))
		}
		if len(l) == 0 || l[len(l)-1].tick != b.Now {
			l = append(l, took{tick: b.Now})
		}
		if is {
			l[len(l)-1].n++
		}
	}
	return l
}

func TestP21_4NoMoreThanBurstAndRate(t *testing.T) {
	taken, brim := 0, 0
	for seed := range int64(600) {
		r := rand.New(rand.NewSource(seed))
		b := anyBucket(r)
		if seed%2 == 0 {
			b, _ = bucket.New(b.Burst, b.Rate, b.Per)
		}
		l := tries(t, r, b, 400)
		for i, from := range l {
			sum := 0
			for _, to := range l[i:] {
				sum += to.n
				left := b.Burst*b.Per + b.Rate*(to.tick-from.tick) - sum*b.Per
				if left < 0 {
					t.Fatalf("seed %d: of %s %d were taken from the tick %d to %d", seed, show(b), sum, from.tick, to.tick)
				}
				if left == 0 {
					brim++
				}
			}
			taken += from.n
		}
	}
	if taken < 10000 || brim < 100 {
		t.Errorf("%d tokens were taken, %d stretches came to the brim", taken, brim)
	}
}

// drain takes all that there is at a tick; it gives up where there is no end.
func drain(b bucket.Bucket, tick int) (bucket.Bucket, int) {
	for n := range 2000 {
		next, is := bucket.Take(b, tick)
		if !is {
			return next, n
		}
		b = next
	}
	return b, 2000
}

// Who takes all at each tick has just as many as may be, where no tick brings more than there is room for.
func TestP21_4NoFewerThanBurstAndRate(t *testing.T) {
	for _, n := range [][3]int{{1, 1, 1}, {1, 1, 2}, {2, 1, 10}, {3, 2, 5}, {5, 3, 7}, {5, 0, 3}, {10, 40, 9}, {1000, 999, 1000}, {1000, 1, 1000}, {1000, 1000, 7}} {
		burst, rate, per := n[0], n[1], n[2]
		b, _ := bucket.New(burst, rate, per)
		sum, got := 0, 0
		for tick := range 300 {
			b, got = drain(b, tick)
			sum += got
			if want := burst + rate*tick/per; sum != want {
				t.Errorf("of New(%d, %d, %d) %d were taken up to the tick %d, want %d", burst, rate, per, sum, tick, want)
			}
		}
	}
}

// Where a tick brings more than there is room for, the rest is lost: Burst is what one tick's takers have at most.
func TestP21_4NoTickHasMoreThanBurst(t *testing.T) {
	for _, n := range [][3]int{{1, 2, 1}, {1, 1000, 1}, {3, 1000, 1}, {2, 50, 7}, {5, 5, 1}, {5, 1000, 100}} {
		b, _ := bucket.New(n[0], n[1], n[2])
		got := 0
		for tick := 0; tick < 1000; tick += 10 {
			if b, got = drain(b, tick); got != n[0] {
				t.Errorf("of New(%d, %d, %d) %d were taken at the tick %d", n[0], n[1], n[2], got, tick)
			}
		}
	}
}

// wantAwaited holds that a token is there behind as many ticks as Wait tells, and not one tick ahead.
func wantAwaited(t *testing.T, b bucket.Bucket, tick int) {
	t.Helper()
	n, from := bucket.Wait(b, tick), bucket.At(b, tick).Now
	if n < 0 {
		for _, last := range []int{from, lastTick} {
			if x, is := bucket.Take(b, last); is {
				t.Errorf("Wait(%s, %d) = %d, but at the tick %d stands %s behind a token", show(b), tick, n, last, show(x))
			}
		}
		return
	}
	if x, is := bucket.Take(b, from+n); !is || bucket.Check(x) != api.OK || x.Now != from+n {
		t.Errorf("Wait(%s, %d) = %d, but then Take = %s, %t", show(b), tick, n, show(x), is)
	}
	wantWait(t, b, from+n, 0)
	if n == 0 {
		return
	}
	for _, ahead := range []int{from, from + n/2, from + n - 1} {
		if x, is := bucket.Take(b, ahead); is && ahead < from+n {
			t.Errorf("Wait(%s, %d) = %d, but at the tick %d Take = %s, true", show(b), tick, n, ahead, show(x))
		}
	}
	wantWait(t, b, from+n-1, 1)
}

func TestP21_4BehindAWaitThereIsAToken(t *testing.T) {
	for _, b := range edges() {
		for _, tick := range ticks(b) {
			wantAwaited(t, b, tick)
		}
	}
	for _, b := range small() {
		for tick := b.Now - 1; tick < b.Now+9; tick++ {
			wantAwaited(t, b, tick)
		}
	}
	for seed := range int64(20000) {
		r := rand.New(rand.NewSource(seed))
		b := anyBucket(r)
		wantAwaited(t, b, nextTick(r, b))
	}
}

func TestP21_4TimeAtOnceOrByATickBetween(t *testing.T) {
	for _, b := range edges() {
		for _, n := range []int{1, 2, 3, 10, 144, 1000, lastTick / 2} {
			for _, m := range []int{0, 1, 2, n / 2, n - 1, n, n + 1} {
				between, last := b.Now+min(m, n), b.Now+n
				want := bucket.At(b, last)
				if last > lastTick {
					continue
				}
				wantAt(t, bucket.At(b, between), last, want)
				wantAt(t, bucket.At(b, last), between, want) // nor does it go back
				wantAt(t, want, last, want)
			}
		}
	}
}

func TestP21_4TimeTickByTick(t *testing.T) {
	for seed := range int64(300) {
		r := rand.New(rand.NewSource(seed))
		b := anyBucket(r)
		x := b
		for range 200 {
			tick := nextTick(r, x)
			x = bucket.At(x, tick)
			if bucket.Check(x) != api.OK {
				t.Fatalf("seed %d: at the tick %d stands %s", seed, tick, show(x))
			}
			wantAt(t, b, x.Now, x)
		}
	}
}

// wantNoLess holds that a bucket has as much as another one of the same making.
func wantNoLess(t *testing.T, more, less bucket.Bucket) {
	t.Helper()
	if more.Level < less.Level || more.Now != less.Now || bucket.Has(more) < bucket.Has(less) {
		t.Errorf("%s has less than %s", show(more), show(less))
	}
}

func TestP21_4WhoHadAsMuchAheadNeverHasLess(t *testing.T) {
	for _, less := range small() {
		for level := less.Level; level <= less.Burst*less.Per; level++ {
			more := less
			more.Level = level
			for tick := less.Now - 1; tick < less.Now+8; tick++ {
				wantNoLess(t, bucket.At(more, tick), bucket.At(less, tick))
				_, is := bucket.Take(more, tick)
				if _, too := bucket.Take(less, tick); too && !is {
					t.Errorf("at the tick %d %s has a token, and %s has none", tick, show(less), show(more))
				}
				n, m := bucket.Wait(more, tick), bucket.Wait(less, tick)
				if m >= 0 && (n < 0 || n > m) {
					t.Errorf("at the tick %d %s waits %d, and %s %d", tick, show(less), m, show(more), n)
				}
			}
		}
	}
}

// A bucket never has less at a later tick, as long as none is taken.
func TestP21_4TimeTakesNothing(t *testing.T) {
	for seed := range int64(500) {
		r := rand.New(rand.NewSource(seed))
		b := anyBucket(r)
		for range 50 {
			next := bucket.At(b, nextTick(r, b))
			if next.Level < b.Level || next.Now < b.Now {
				t.Fatalf("seed %d: %s became %s", seed, show(b), show(next))
			}
			b = next
		}
	}
}

// Of two that are asked at the same ticks the one that had as much ahead is never behind in what it gave.
func TestP21_4WhoHadAsMuchAheadGivesNoLess(t *testing.T) {
	ahead := 0
	for seed := range int64(500) {
		r := rand.New(rand.NewSource(seed))
		less := anyBucket(r)
		more := less
		more.Level = atMost(r, less.Level, less.Burst*less.Per)
		gave, is, too := 0, false, false
		for range 300 {
			tick := nextTick(r, less)
			more, is = bucket.Take(more, tick)
			less, too = bucket.Take(less, tick)
			if is && !too {
				gave++
			}
			if too && !is {
				gave--
			}
			if gave < 0 || more.Level+gave*more.Per < less.Level || more.Now != less.Now {
				t.Fatalf("seed %d: %s gave %d more than %s", seed, show(more), gave, show(less))
			}
		}
		if gave > 0 {
			ahead++
		}
	}
	if ahead < 50 {
		t.Errorf("%d gave more", ahead)
	}
}

// Two buckets have nothing in common: what is done with the one does nothing to the other.
func TestP21_4ABucketThatCameInStaysAsItWas(t *testing.T) {
	one, _ := bucket.New(3, 2, 5)
	two, _ := bucket.New(3, 2, 5)
	for tick := range 30 {
		one, _ = bucket.Take(one, tick)
		bucket.Take(two, tick)
		bucket.At(two, tick)
		bucket.Wait(two, tick)
		bucket.Has(two)
		bucket.Check(two)
	}
	if two != of(3, 2, 5, 15, 0) || one == two {
		t.Errorf("behind the calls stand %s and %s", show(one), show(two))
	}
}
