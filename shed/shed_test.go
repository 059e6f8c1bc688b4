package shed_test

import (
	"math"
	"math/big"
	"math/rand"
	"strconv"
	"testing"

	"footman/api"
	"footman/bucket"
	"footman/shed"
)

const lastTick = 1099511627776

// The fates as the document numbers them.
const (
	admit  = 0
	refuse = 1
	many   = 2
	busy   = 3
	wrong  = 4
)

// far are numbers to both ends of what an int can tell.
var far = []int{
	math.MinInt, math.MinInt + 1, -1 << 62, -lastTick - 1, -lastTick, -1<<32 - 1, -1 << 32, -1000, -7, -2, -1,
	lastTick - 1, lastTick, lastTick + 1, 2 * lastTick, 1<<32 + 1, 1 << 62, math.MaxInt - 1, math.MaxInt,
}

// usual has streams under both limits, just as much room as it costs, and goes on.
var usual = shed.Look{Open: 2, Told: 3, Agreed: 5, Cost: 4, Backlog: 6, Cap: 10, Tick: 100, Second: 10}

// one and none are buckets with just one token, and with none: a part comes each tick, and ten are a token.
var (
	one  = of(2, 1, 10, 10, 100)
	none = of(2, 1, 10, 0, 100)
)

func of(burst, rate, per, level, now int) bucket.Bucket {
	return bucket.Bucket{Burst: burst, Rate: rate, Per: per, Level: level, Now: now}
}

func leveled(b bucket.Bucket, level int) bucket.Bucket {
	b.Level = level
	return b
}

func showBucket(b bucket.Bucket) string {
	s := "{"
	for _, n := range []int{b.Burst, b.Rate, b.Per, b.Level, b.Now} {
		s += " " + strconv.Itoa(n)
	}
	return s + " }"
}

func showLook(x shed.Look) string {
	s := "{"
	for _, n := range []int{x.Open, x.Told, x.Agreed} {
		s += " " + strconv.Itoa(n)
	}
	s += " " + strconv.FormatBool(x.Away)
	for _, n := range []int{x.Cost, x.Backlog, x.Cap, x.Tick, x.Second} {
		s += " " + strconv.Itoa(n)
	}
	return s + " }"
}

// streams, costs and timed are usual with some of its parts set.
func streams(open, told, agreed int) shed.Look {
	x := usual
	x.Open, x.Told, x.Agreed = open, told, agreed
	return x
}

func costs(cost, backlog, room int) shed.Look {
	x := usual
	x.Cost, x.Backlog, x.Cap = cost, backlog, room
	return x
}

func timed(tick, second int) shed.Look {
	x := usual
	x.Tick, x.Second = tick, second
	return x
}

func away(x shed.Look) shed.Look {
	x.Away = true
	return x
}

// modelFits reckons without range.
func modelFits(x shed.Look) bool {
	if x.Cost < 1 || x.Backlog < 0 {
		return false
	}
	sum := new(big.Int).Add(big.NewInt(int64(x.Cost)), big.NewInt(int64(x.Backlog)))
	return sum.Cmp(big.NewInt(int64(x.Cap))) <= 0
}

// modelSeconds counts seconds till they are as many ticks as those, without range.
func modelSeconds(ticks, second int) int {
	if second < 1 {
		second = 1
	}
	n := 1
	for gone := big.NewInt(int64(second)); gone.Cmp(big.NewInt(int64(ticks))) < 0; n++ {
		gone.Add(gone, big.NewInt(int64(second)))
	}
	return n
}

func modelDecide(x shed.Look, b bucket.Bucket) (int, bucket.Bucket, int) {
	under := x.Open < x.Told && x.Open < x.Agreed && !x.Away
	then := bucket.At(b, x.Tick)
	token := bucket.Has(then) > 0
	if under && modelFits(x) {
		if token {
			return admit, leveled(then, then.Level-then.Per), 0
		}
		return many, then, modelSeconds(bucket.Wait(b, x.Tick), x.Second)
	}
	if under {
		return busy, b, 1
	}
	if x.Open < x.Agreed {
		return refuse, b, 0
	}
	return wrong, b, 0
}

func wantDecide(t *testing.T, x shed.Look, b bucket.Bucket, fate int, left bucket.Bucket, wait int) {
	t.Helper()
	look, came := x, b
	for range 2 { // what it answers hangs on nothing else
		if f, c, w := shed.Decide(look, came); f != fate || c != left || w != wait {
			t.Errorf("Decide(%s, %s) = %d, %s, %d, want %d, %s, %d", showLook(x), showBucket(b), f, showBucket(c), w, fate, showBucket(left), wait)
		}
	}
	if look != x || came != b {
		t.Errorf("Decide(%s, %s) changed what came in: %s, %s", showLook(x), showBucket(b), showLook(look), showBucket(came))
	}
}

func wantAdmit(t *testing.T, x shed.Look, b, left bucket.Bucket) {
	t.Helper()
	wantDecide(t, x, b, admit, left, 0)
}

func wantMany(t *testing.T, x shed.Look, b, left bucket.Bucket, wait int) {
	t.Helper()
	wantDecide(t, x, b, many, left, wait)
}

// wantRefuse, wantBusy and wantWrong hold a fate that leaves the bucket as it was, at whatever tick that is.
func wantRefuse(t *testing.T, x shed.Look, b bucket.Bucket) {
	t.Helper()
	wantDecide(t, x, b, refuse, b, 0)
}

func wantBusy(t *testing.T, x shed.Look, b bucket.Bucket) {
	t.Helper()
	wantDecide(t, x, b, busy, b, 1)
}

func wantWrong(t *testing.T, x shed.Look, b bucket.Bucket) {
	t.Helper()
	wantDecide(t, x, b, wrong, b, 0)
}

func wantModel(t *testing.T, x shed.Look, b bucket.Bucket) int {
	t.Helper()
	fate, left, wait := modelDecide(x, b)
	wantDecide(t, x, b, fate, left, wait)
	return fate
}

func wantFits(t *testing.T, x shed.Look, want bool) {
	t.Helper()
	came := x
	for range 2 {
		if is := shed.Fits(came); is != want {
			t.Errorf("Fits(%s) = %t, want %t", showLook(x), is, want)
		}
	}
	if came != x {
		t.Errorf("Fits(%s) changed what came in: %s", showLook(x), showLook(came))
	}
}

// refused are buckets that Check refuses: by one part alone, most of which would have tokens, or by several.
func refused() []bucket.Bucket {
	return []bucket.Bucket{
		{}, of(0, 1, 10, 10, 100), of(1001, 1, 10, 10, 100), of(2, -1, 10, 10, 100), of(2, 1001, 10, 10, 100), of(2, 1, 0, 0, 100), of(2, 1, 1001, 1001, 100),
		of(2, 1, 10, -1, 100), of(2, 1, 10, 21, 100), of(2, 1, 10, 10, -1), of(2, 1, 10, 10, lastTick+1), of(-2, 1, -10, 10, 100), of(1<<32, 1, 1<<32, 0, 0),
		of(math.MaxInt, math.MaxInt, math.MaxInt, math.MaxInt, math.MaxInt), of(math.MinInt, math.MinInt, math.MinInt, math.MinInt, math.MinInt),
	}
}

// buckets are those with tokens and without, near the bounds of their time, and those that may not be.
func buckets() []bucket.Bucket {
	l := refused()
	for _, now := range []int{0, 95, 100, 101, lastTick - 10, lastTick - 9, lastTick} {
		for _, b := range []bucket.Bucket{of(2, 1, 10, 0, now), of(2, 0, 10, 9, now), of(1, 3, 1000, 0, now), of(1, 1000, 1, 0, now), of(3, 7, 25, 0, now)} {
			for _, level := range []int{0, 1, b.Per - 1, b.Per, b.Per + 1, b.Burst * b.Per} {
				if level <= b.Burst*b.Per {
					l = append(l, leveled(b, level))
				}
			}
		}
	}
	return l
}

func TestP23TheFatesHaveTheirNumbers(t *testing.T) {
	got := [5]int{shed.Admit, shed.Refuse, shed.Many, shed.Busy, shed.Wrong}
	if want := [5]int{0, 1, 2, 3, 4}; got != want {
		t.Errorf("the fates are %v, want %v", got, want)
	}
}

func TestP23_1EachFateAlone(t *testing.T) {
	wantAdmit(t, usual, one, leveled(one, 0))
	wantRefuse(t, streams(3, 3, 5), one)
	wantRefuse(t, away(usual), one)
	wantMany(t, usual, none, none, 1)
	wantBusy(t, costs(5, 6, 10), one)
	wantBusy(t, costs(0, 6, 10), one)
	wantWrong(t, streams(5, 6, 5), one)
}

func TestP23_1AsInTheExample(t *testing.T) {
	b, e := bucket.New(2, 1, 10)
	if e != api.OK {
		t.Fatal(e)
	}
	wantAdmit(t, shed.Look{Open: 0, Told: 2, Agreed: 9, Cost: 1, Cap: 5}, b, of(2, 1, 10, 10, 0))
}

func TestP23_1OpenAboutAgreed(t *testing.T) {
	for _, agreed := range []int{0, 1, 2, 5, 16, 1 << 32, -3} {
		for _, told := range []int{agreed + 1, agreed + 9, math.MaxInt} {
			wantAdmit(t, streams(agreed-1, told, agreed), one, leveled(one, 0))
			wantWrong(t, streams(agreed, told, agreed), one)
			wantWrong(t, streams(agreed+1, told, agreed), one)
			wantWrong(t, streams(math.MaxInt, told, agreed), one)
			wantAdmit(t, streams(math.MinInt, told, agreed), one, leveled(one, 0))
		}
	}
	wantWrong(t, streams(math.MinInt, 3, math.MinInt), one)
	wantWrong(t, streams(math.MaxInt, 3, math.MaxInt), one)
}

func TestP23_1OpenAboutTold(t *testing.T) {
	for _, told := range []int{0, 1, 2, 5, 16, 1 << 32, -3} {
		for _, agreed := range []int{told + 2, told + 9, math.MaxInt} {
			wantAdmit(t, streams(told-1, told, agreed), one, leveled(one, 0))
			wantRefuse(t, streams(told, told, agreed), one)
			wantRefuse(t, streams(told+1, told, agreed), one)
			wantRefuse(t, streams(agreed-1, told, agreed), one)
			wantWrong(t, streams(agreed, told, agreed), one)
			wantAdmit(t, streams(math.MinInt, told, agreed), one, leveled(one, 0))
		}
	}
	wantRefuse(t, streams(math.MinInt, math.MinInt, 5), one)
	wantRefuse(t, streams(math.MaxInt-1, math.MaxInt-1, math.MaxInt), one)
}

// While a limit falls, Told is below Agreed; where it rises, above.
func TestP23_1ToldBelowAgreedAndAboveIt(t *testing.T) {
	wantFates := func(told, agreed int, want ...int) {
		t.Helper()
		for open, fate := range want {
			if f, _, _ := shed.Decide(streams(open, told, agreed), one); f != fate {
				t.Errorf("with %d streams, %d told and %d agreed: %d, want %d", open, told, agreed, f, fate)
			}
		}
	}
	wantFates(4, 4, admit, admit, admit, admit, wrong, wrong)
	wantFates(2, 4, admit, admit, refuse, refuse, wrong, wrong)
	wantFates(4, 2, admit, admit, wrong, wrong, wrong, wrong)
	wantFates(3, 4, admit, admit, admit, refuse, wrong)
	wantFates(4, 3, admit, admit, admit, wrong, wrong)
	wantFates(0, 2, refuse, refuse, wrong)
	wantFates(2, 0, wrong, wrong, wrong)
	wantFates(0, 0, wrong, wrong)
}

func TestP23_1AllStreamsAndLimits(t *testing.T) {
	l := append([]int{0, 1, 2, 3, 4}, far...)
	for _, open := range l {
		for _, told := range l {
			for _, agreed := range l {
				wantModel(t, streams(open, told, agreed), one)
				wantModel(t, away(streams(open, told, agreed)), none)
			}
		}
	}
}

func TestP23_1GoingAway(t *testing.T) {
	wantRefuse(t, away(streams(0, 3, 5)), one)
	wantRefuse(t, away(streams(2, 3, 5)), one)
	wantRefuse(t, away(streams(3, 3, 5)), one)
	wantRefuse(t, away(streams(4, 3, 5)), one)
	wantWrong(t, away(streams(5, 3, 5)), one) // a fault of the other side stays one
	wantWrong(t, away(streams(5, 6, 5)), one)
	wantWrong(t, away(streams(6, 3, 5)), one)
	wantRefuse(t, away(streams(2, 3, 3)), none)
}

// All sets of reasons at once: the one that the document names first holds.
func TestP23_1SeveralReasonsAreHeldInOrder(t *testing.T) {
	for set := range 32 {
		x, b, want := usual, one, admit
		if set&1 != 0 {
			b, want = none, many
		}
		if set&2 != 0 {
			x.Cost, want = 5, busy
		}
		if set&4 != 0 {
			x.Away, want = true, refuse
		}
		if set&8 != 0 {
			x.Told, want = 2, refuse
		}
		if set&16 != 0 {
			x.Agreed, want = 2, wrong
		}
		left := b
		if want == admit {
			left = leveled(b, 0)
		}
		wantDecide(t, x, b, want, left, map[int]int{many: 1, busy: 1}[want])
	}
}

// rooms are what fits and what does not, at each edge.
var rooms = []struct {
	cost, backlog, room int
	fits                bool
}{
	{1, 0, 1, true}, {1, 0, 0, false}, {1, 1, 1, false}, {1, 1, 2, true}, {2, 1, 2, false}, {1, 0, 5, true},
	{4, 6, 10, true}, {5, 6, 10, false}, {3, 6, 10, true}, {4, 7, 10, false}, {4, 5, 10, true}, {4, 6, 9, false}, {4, 6, 11, true}, {10, 0, 10, true}, {11, 0, 10, false},
	{0, 0, 10, false}, {0, 6, 10, false}, {0, 10, 10, false}, {0, 0, 0, false}, {-1, 6, 10, false}, {-1, 11, 10, false}, {-4, 6, 10, false},
	{1, -1, 10, false}, {1, -1, 0, false}, {2, -1, 1, false}, {5, -2, 10, false}, {1, -1, 1, false}, {4, -6, 10, false}, {12, -1, 11, false},
	{1, 9, 10, true}, {1, 10, 10, false}, {1, 11, 10, false}, {2, 9, 10, false}, {1, 20, 10, false},
	{1, 0, -1, false}, {1, -1, -1, false}, {1, -2, -1, false}, {-1, 0, -1, false}, {1, 0, -10, false}, {0, 0, -1, false},
	{math.MaxInt, 0, math.MaxInt, true}, {math.MaxInt, 1, math.MaxInt, false}, {math.MaxInt - 1, 1, math.MaxInt, true}, {1, math.MaxInt - 1, math.MaxInt, true}, {1, math.MaxInt, math.MaxInt, false},
	{math.MaxInt, math.MaxInt, math.MaxInt, false}, {1 << 62, 1 << 62, math.MaxInt, false}, {1 << 62, 1<<62 - 1, math.MaxInt, true}, {math.MaxInt, 1, 10, false}, {1, math.MaxInt, 10, false}, {math.MaxInt, math.MaxInt, 10, false}, {math.MaxInt, 2, math.MinInt, false},
	{math.MaxInt, 0, math.MaxInt - 1, false}, {1, 0, math.MaxInt, true}, {math.MinInt, 0, math.MaxInt, false}, {math.MinInt, 0, 0, false}, {math.MinInt, math.MaxInt, 10, false},
	{1, math.MinInt, math.MaxInt, false}, {1, math.MinInt, 0, false}, {1, math.MinInt, math.MinInt, false}, {math.MaxInt, math.MinInt, 0, false}, {math.MinInt, math.MinInt, 0, false}, {math.MinInt, math.MinInt, math.MaxInt, false},
	{1, 0, math.MinInt, false}, {1, 1, math.MinInt, false}, {1, math.MaxInt, math.MinInt, false}, {2, math.MaxInt, math.MinInt, false}, {math.MaxInt, math.MaxInt, math.MinInt, false}, {1, math.MaxInt, -1, false}, {1, 2, math.MinInt + 1, false},
}

func TestP23_1WhatDoesNotFitIsBusy(t *testing.T) {
	for _, r := range rooms {
		x := costs(r.cost, r.backlog, r.room)
		if !r.fits {
			wantBusy(t, x, one)
			wantBusy(t, x, none)
			wantBusy(t, x, of(2, 1, 10, 0, 40)) // its time does not go on
			wantBusy(t, x, bucket.Bucket{})
			continue
		}
		wantAdmit(t, x, one, leveled(one, 0))
		wantMany(t, x, none, none, 1)
	}
}

// A Busy's wait is one second, however long a token is to come, or a second is.
func TestP23_1BusyIsToldOneSecond(t *testing.T) {
	for _, second := range append([]int{0, 1, 2, 10, 1000}, far...) {
		for _, b := range buckets() {
			x := timed(100, second)
			x.Cost = 5
			wantBusy(t, x, b)
		}
	}
}

// Nothing is to wait for where a request is admitted, refused, or wrong, whatever the tick and the second.
func TestP23_1OthersAreToldNoSecond(t *testing.T) {
	for _, second := range append([]int{0, 1, 2, 10, 1000}, far...) {
		for _, tick := range append([]int{0, 99, 100, 101}, far...) {
			for _, b := range []bucket.Bucket{one, none, {}, of(2, 0, 10, 0, 0), of(2, 1, 10, 20, 0)} {
				x := away(timed(tick, second))
				wantRefuse(t, x, b)
				x.Agreed = 2
				wantWrong(t, x, b)
			}
			b := of(2, 0, 10, 20, 5)
			wantAdmit(t, timed(tick, second), b, leveled(bucket.At(b, tick), 10))
		}
	}
}

func TestP23_1AFullBucket(t *testing.T) {
	for _, burst := range []int{1, 2, 1000} {
		for _, per := range []int{1, 10, 1000} {
			b := of(burst, 1, per, burst*per, 100)
			wantAdmit(t, usual, b, of(burst, 1, per, (burst-1)*per, 100))
			wantAdmit(t, timed(500, 10), b, of(burst, 1, per, (burst-1)*per, 500)) // it was full ahead of the taking
		}
	}
}

func TestP23_1ABucketWithJustOneToken(t *testing.T) {
	wantAdmit(t, timed(100, 10), of(2, 1, 10, 10, 100), of(2, 1, 10, 0, 100))
	wantAdmit(t, timed(103, 10), of(2, 1, 10, 10, 100), of(2, 1, 10, 3, 103))
	wantAdmit(t, timed(110, 10), of(2, 1, 10, 10, 100), of(2, 1, 10, 10, 110))
	wantAdmit(t, timed(111, 10), of(2, 1, 10, 10, 100), of(2, 1, 10, 10, 111))
	wantAdmit(t, timed(100, 10), of(1, 0, 1, 1, 100), of(1, 0, 1, 0, 100))
	wantAdmit(t, timed(100, 10), of(2, 1, 10, 11, 100), of(2, 1, 10, 1, 100))
	wantMany(t, timed(100, 10), of(2, 1, 10, 9, 100), of(2, 1, 10, 9, 100), 1)
}

func TestP23_1ATokenThatComesJustAtTick(t *testing.T) {
	b := of(2, 2, 25, 3, 100) // a token is there behind 11 ticks
	wantMany(t, timed(100, 10), b, of(2, 2, 25, 3, 100), 2)
	wantMany(t, timed(101, 10), b, of(2, 2, 25, 5, 101), 1)
	wantMany(t, timed(110, 10), b, of(2, 2, 25, 23, 110), 1)
	wantAdmit(t, timed(111, 10), b, of(2, 2, 25, 0, 111))
	wantAdmit(t, timed(112, 10), b, of(2, 2, 25, 2, 112))
}

// A tick ahead of the bucket's own is no later one: what is there counts, and the wait is from there on.
func TestP23_1ATickAheadOfTheBuckets(t *testing.T) {
	for _, tick := range []int{99, 98, 1, 0, -1, -1000, -lastTick, math.MinInt + 1, math.MinInt} {
		wantAdmit(t, timed(tick, 10), one, leveled(one, 0))
		wantMany(t, timed(tick, 3), none, none, 4)
		wantMany(t, timed(tick, 3), leveled(none, 9), leveled(none, 9), 1)
	}
}

func TestP23_1ATickAboveTheLast(t *testing.T) {
	for _, tick := range []int{lastTick + 1, lastTick + 2, 2 * lastTick, 1 << 62, math.MaxInt - 1, math.MaxInt} {
		wantAdmit(t, timed(tick, 10), one, leveled(one, 0))
		wantMany(t, timed(tick, 3), none, none, 4)
	}
	wantAdmit(t, timed(lastTick, 10), none, of(2, 1, 10, 10, lastTick))
	wantAdmit(t, timed(lastTick-1, 10), none, of(2, 1, 10, 10, lastTick-1))
}

func TestP23_1ABucketThatMayNotBe(t *testing.T) {
	for _, b := range refused() {
		for _, tick := range append([]int{0, 99, 100, 101, 1000}, far...) {
			for _, second := range []int{1, 10, 0, math.MinInt, math.MaxInt} {
				x := timed(tick, second)
				wantMany(t, x, b, b, 1)
				wantRefuse(t, away(x), b)
				x.Cost = 0
				wantBusy(t, x, b)
				x.Agreed = 0
				wantWrong(t, x, b)
			}
		}
	}
}

// What is answered, part by part: of all fates only Admit and Many let the bucket's time go on.
func TestP23_1TheBucketThatIsAnswered(t *testing.T) {
	b := of(3, 2, 10, 4, 100)
	full, short := timed(107, 10), timed(102, 10)
	wantAdmit(t, full, b, of(3, 2, 10, 8, 107))
	wantMany(t, short, b, of(3, 2, 10, 8, 102), 1)
	for _, x := range []shed.Look{full, short} {
		wantRefuse(t, away(x), b)
		x.Cost = 5
		wantBusy(t, x, b)
		x.Cost, x.Open = 4, 5
		wantWrong(t, x, b)
	}
	wantMany(t, timed(200, 10), of(3, 0, 10, 4, 100), of(3, 0, 10, 4, 200), 1)
}

func TestP23_1SecondsAreCutUp(t *testing.T) {
	for _, s := range []struct{ wait, second, want int }{
		{1, 1, 1}, {2, 1, 2}, {10, 1, 10}, {999, 1, 999}, {1000, 1, 1000},
		{1, 2, 1}, {2, 2, 1}, {3, 2, 2}, {4, 2, 2}, {5, 2, 3},
		{1, 10, 1}, {9, 10, 1}, {10, 10, 1}, {11, 10, 2}, {19, 10, 2}, {20, 10, 2}, {21, 10, 3}, {29, 10, 3}, {30, 10, 3}, {31, 10, 4},
		{99, 100, 1}, {100, 100, 1}, {101, 100, 2}, {1000, 100, 10}, {999, 100, 10}, {901, 100, 10}, {900, 100, 9},
		{999, 1000, 1}, {1000, 1000, 1}, {1000, 999, 2}, {1000, 500, 2}, {1000, 501, 2}, {1000, 499, 3}, {1000, 334, 3}, {1000, 333, 4},
		{1, 1000, 1}, {1000, 1001, 1}, {1000, lastTick, 1}, {1, 1 << 62, 1}, {1000, 1 << 62, 1},
		{1, math.MaxInt, 1}, {2, math.MaxInt, 1}, {1000, math.MaxInt, 1}, {1000, math.MaxInt - 1, 1}, {1000, math.MaxInt - 999, 1},
		{1, 0, 1}, {7, 0, 7}, {1000, 0, 1000}, {1, -1, 1}, {7, -1, 7}, {1000, -10, 1000}, {7, -7, 7}, {7, math.MinInt, 7}, {1000, math.MinInt, 1000}, {2, math.MinInt + 1, 2},
	} {
		b := of(1, 1, 1000, 1000-s.wait, 100)
		wantMany(t, timed(100, s.second), b, b, s.want)
		wantMany(t, timed(7, s.second), b, b, s.want)
		if b.Level > 0 { // the wait is from Tick on, not from where the bucket was
			wantMany(t, timed(100, s.second), of(1, 1, 1000, b.Level-1, 99), b, s.want)
		}
	}
}

func TestP23_1SecondsOfAllWaits(t *testing.T) {
	for _, second := range []int{math.MinInt, -1, 0, 1, 2, 3, 7, 10, 60, 100, 999, 1000, 1001, math.MaxInt} {
		for wait := 1; wait <= 1000; wait++ {
			b := of(1, 1, 1000, 1000-wait, 100)
			wantMany(t, timed(100, second), b, b, modelSeconds(wait, second))
		}
	}
}

func TestP23_1AWaitThatNeverEndsIsOneSecond(t *testing.T) {
	for _, second := range append([]int{0, 1, 2, 10, 1000}, far...) {
		for _, level := range []int{0, 1, 9} {
			b := of(2, 0, 10, level, 100)
			wantMany(t, timed(100, second), b, b, 1)
			wantMany(t, timed(150, second), b, of(2, 0, 10, level, 150), 1)
		}
		b := of(1, 1, 10, 0, lastTick-9) // a token would be there at the tick behind the last one
		wantMany(t, timed(100, second), b, b, 1)
		wantMany(t, timed(lastTick-3, second), b, of(1, 1, 10, 6, lastTick-3), 1)
		wantMany(t, timed(lastTick, second), b, of(1, 1, 10, 9, lastTick), 1)
		wantMany(t, timed(lastTick+1, second), b, b, 1)
		wantMany(t, timed(100, second), bucket.Bucket{}, bucket.Bucket{}, 1)
	}
	b := of(1, 1, 10, 0, lastTick-10) // at the last one there is one yet
	wantMany(t, timed(100, 1), b, b, 10)
	wantMany(t, timed(lastTick-3, 1), b, of(1, 1, 10, 7, lastTick-3), 3)
	wantAdmit(t, timed(lastTick, 1), b, of(1, 1, 10, 0, lastTick))
}

func TestP23_1AgainstTheModel(t *testing.T) {
	met := [5]int{}
	for _, b := range buckets() {
		for _, tick := range []int{math.MinInt, -1, 0, b.Now - 1, b.Now, b.Now + 1, b.Now + 4, b.Now + 9, b.Now + 10, b.Now + 334, lastTick, lastTick + 1, math.MaxInt} {
			for _, second := range []int{math.MinInt, 0, 1, 3, 10, 1000, math.MaxInt} {
				for _, open := range []int{1, 2, 3, 4} {
					for _, room := range []int{9, 10} {
						x := timed(tick, second)
						x.Open, x.Agreed, x.Cap = open, 4, room
						met[wantModel(t, x, b)]++
						met[wantModel(t, away(x), b)]++
					}
				}
			}
		}
	}
	for fate, n := range met {
		if n < 1000 {
			t.Errorf("the fate %d was met %d times", fate, n)
		}
	}
}

func TestP23_2Fits(t *testing.T) {
	for _, r := range rooms {
		wantFits(t, costs(r.cost, r.backlog, r.room), r.fits)
		wantFits(t, shed.Look{Cost: r.cost, Backlog: r.backlog, Cap: r.room}, r.fits)
	}
}

func TestP23_2FitsOfAllSmallNumbers(t *testing.T) {
	for cost := -3; cost <= 8; cost++ {
		for backlog := -3; backlog <= 8; backlog++ {
			for room := -3; room <= 8; room++ {
				wantFits(t, costs(cost, backlog, room), cost >= 1 && backlog >= 0 && cost+backlog <= room)
			}
		}
	}
}

func TestP23_2FitsCountsNothingPastItsEnd(t *testing.T) {
	l := append([]int{0, 1, 2, 10, 1<<62 - 1, 1<<62 + 1, math.MaxInt - 2, math.MinInt + 2}, far...)
	fit := 0
	for _, cost := range l {
		for _, backlog := range l {
			for _, room := range l {
				x := costs(cost, backlog, room)
				wantFits(t, x, modelFits(x))
				if modelFits(x) {
					fit++
				}
			}
		}
	}
	if fit < 100 {
		t.Errorf("only %d fit", fit)
	}
}

// Neither the streams nor the time have to do with room.
func TestP23_2FitsOfNothingElse(t *testing.T) {
	for _, n := range append([]int{0, 1, 5}, far...) {
		for _, goes := range []bool{false, true} {
			fits := shed.Look{Open: n, Told: -n, Agreed: n, Away: goes, Cost: 4, Backlog: 6, Cap: 10, Tick: n, Second: n}
			wantFits(t, fits, true)
			fits.Backlog = 7
			wantFits(t, fits, false)
		}
	}
}

func TestP23_2Status(t *testing.T) {
	for _, fate := range append([]int{5, 6, 100, 429, 503, 1 << 32, 1<<32 + 2, 1<<32 + 3, -3, 258, 259}, far...) {
		if n := shed.Status(fate); n != 0 {
			t.Errorf("Status(%d) = %d, want 0", fate, n)
		}
	}
	for fate, want := range map[int]int{admit: 0, refuse: 0, many: 429, busy: 503, wrong: 0} {
		if n := shed.Status(fate); n != want {
			t.Errorf("Status(%d) = %d, want %d", fate, n, want)
		}
	}
}

func TestP23_2Code(t *testing.T) {
	for _, fate := range append([]int{5, 6, 7, 100, 1 << 32, 1<<32 + 1, 1<<32 + 4, -4, 257, 260}, far...) {
		if c := shed.Code(fate); c != 0 {
			t.Errorf("Code(%d) = %d, want 0", fate, c)
		}
	}
	for fate, want := range map[int]api.Code{admit: 0, refuse: 7, many: 0, busy: 0, wrong: 1} {
		if c := shed.Code(fate); c != want {
			t.Errorf("Code(%d) = %d, want %d", fate, c, want)
		}
	}
}

// anyBucket is one by chance, of few tokens of few parts for the most part; now and then one that may not be.
func anyBucket(r *rand.Rand) bucket.Bucket {
	most := []int{3, 30, 1000}[r.Intn(3)]
	b := of(1+r.Intn(most), r.Intn(most+1), 1+r.Intn(most), 0, []int{0, 100, r.Intn(lastTick), lastTick - r.Intn(40)}[r.Intn(4)])
	b.Level = r.Intn(b.Burst*b.Per + 1)
	if r.Intn(3) == 0 {
		b.Level = r.Intn(b.Per)
	}
	if r.Intn(20) == 0 {
		l := refused()
		return l[r.Intn(len(l))]
	}
	return b
}

// anyLook is one by chance, about the bounds of all that is looked at.
func anyLook(r *rand.Rand, b bucket.Bucket) shed.Look {
	told, agreed, room := 1+r.Intn(6), 1+r.Intn(6), r.Intn(40)
	x := shed.Look{Open: r.Intn(6), Told: told, Agreed: agreed, Away: r.Intn(8) == 0, Cost: 1 + r.Intn(8), Backlog: r.Intn(room + 1), Cap: room}
	if r.Intn(10) == 0 {
		x.Cost -= 4
	}
	x.Tick = []int{b.Now, b.Now, b.Now + 1, b.Now + r.Intn(50), b.Now - r.Intn(50), far[r.Intn(len(far))]}[r.Intn(6)]
	x.Second = []int{1, 2, 10, 1 + r.Intn(100), 1 + r.Intn(1000), -r.Intn(3), far[r.Intn(len(far))]}[r.Intn(7)]
	return x
}

// wantOneFate holds what is told of each fate, by the look alone and the tokens that the bucket has at its tick.
func wantOneFate(t *testing.T, x shed.Look, b bucket.Bucket) (int, bucket.Bucket) {
	t.Helper()
	fate, left, wait := shed.Decide(x, b)
	had := bucket.Has(bucket.At(b, x.Tick))
	free := x.Open < x.Told && x.Open < x.Agreed && shed.Fits(x) && !x.Away
	whose := "Decide(" + showLook(x) + ", " + showBucket(b) + ")"
	if fate < admit || fate > wrong {
		t.Fatalf("%s = %d, which is no fate", whose, fate)
	}
	if (fate == admit) != (free && had > 0) {
		t.Errorf("%s = %d, with %d tokens", whose, fate, had)
	}
	if (fate == many) != (free && had == 0) {
		t.Errorf("%s = %d, with %d tokens", whose, fate, had)
	}
	after := bucket.Has(bucket.At(left, x.Tick))
	if fate == admit && after != had-1 || fate != admit && after != had {
		t.Errorf("%s = %d leaves %d of %d tokens", whose, fate, after, had)
	}
	if told := wait > 0; told != (fate == many || fate == busy) || wait < 0 {
		t.Errorf("%s = %d, and tells to wait for %d", whose, fate, wait)
	}
	if (shed.Status(fate) != 0) != (wait > 0) || shed.Status(fate) != 0 && shed.Code(fate) != api.NoError {
		t.Errorf("%s = %d: %d, %d", whose, fate, shed.Status(fate), shed.Code(fate))
	}
	return fate, left
}

func TestP23_3EachRequestHasOneFate(t *testing.T) {
	r := rand.New(rand.NewSource(233))
	met := [5]int{}
	for range 60000 {
		b := anyBucket(r)
		x := anyLook(r, b)
		fate, _ := wantOneFate(t, x, b)
		met[fate]++
		if wantModel(t, x, b) != fate {
			t.Fatalf("Decide(%s, %s) = %d", showLook(x), showBucket(b), fate)
		}
	}
	for fate, n := range met {
		if n < 1000 {
			t.Errorf("the fate %d was met %d times", fate, n)
		}
	}
}

// One bucket goes from look to look: a token for each Admit, and for nothing else.
func TestP23_3OneBucketOverManyLooks(t *testing.T) {
	r := rand.New(rand.NewSource(2330))
	for range 300 {
		b, e := bucket.New(1+r.Intn(20), 0, 1+r.Intn(20))
		if e != api.OK {
			t.Fatal(e)
		}
		admitted, tick := 0, 0
		for range 100 {
			x := anyLook(r, b)
			tick += r.Intn(3)
			x.Tick = tick
			var fate int
			if fate, b = wantOneFate(t, x, b); fate == admit {
				admitted++
			}
			if bucket.Has(b) != b.Burst-admitted {
				t.Fatalf("of %d tokens %d were taken, and %d are left", b.Burst, admitted, bucket.Has(b))
			}
		}
	}
}

// From one tick to another no more are admitted than Burst, and Rate times the ticks by Per; and so many, where one asks all the time.
func TestP23_3AsManyAsTheBucketGives(t *testing.T) {
	for _, m := range [][3]int{{1, 1, 1}, {1, 1, 25}, {5, 2, 7}, {3, 0, 4}, {10, 3, 10}} {
		burst, rate, per := m[0], m[1], m[2]
		b, _ := bucket.New(burst, rate, per)
		admitted := 0
		for tick := range 200 {
			for range burst + 2 {
				var fate int
				if fate, b = wantOneFate(t, timed(tick, 10), b); fate == admit {
					admitted++
				}
			}
			if want := burst + rate*tick/per; admitted != want {
				t.Fatalf("of %d, %d by %d, at the tick %d: %d, want %d", burst, rate, per, tick, admitted, want)
			}
		}
	}
}

// wantAwaited holds that behind the seconds that a Many tells there is a token, and a second ahead there is none.
func wantAwaited(t *testing.T, x shed.Look, b bucket.Bucket) bool {
	t.Helper()
	fate, left, wait := shed.Decide(x, b)
	ticks := bucket.Wait(b, x.Tick)
	second := max(1, x.Second)
	if fate != many || ticks < 0 || second > lastTick {
		return false
	}
	if left.Now+wait*second > lastTick { // it is there, but at a tick within that second
		return false
	}
	if bucket.Has(bucket.At(left, left.Now+wait*second)) < 1 {
		t.Errorf("Decide(%s, %s) tells %d seconds, and there is no token behind them", showLook(x), showBucket(b), wait)
	}
	if wait > 1 && bucket.Has(bucket.At(left, left.Now+(wait-1)*second)) > 0 {
		t.Errorf("Decide(%s, %s) tells %d seconds, and there is a token ahead", showLook(x), showBucket(b), wait)
	}
	x.Tick = left.Now + wait*second
	if f, _, _ := shed.Decide(x, left); f != admit {
		t.Errorf("behind %d seconds Decide(%s, %s) = %d", wait, showLook(x), showBucket(left), f)
	}
	return true
}

func TestP23_3BehindTheSecondsThereIsAToken(t *testing.T) {
	r := rand.New(rand.NewSource(2333))
	held := 0
	for range 60000 {
		b := anyBucket(r)
		x := anyLook(r, b)
		x.Open, x.Away, x.Cost, x.Backlog, x.Cap = 0, false, 1, 0, 1
		if wantAwaited(t, x, b) {
			held++
		}
	}
	if held < 10000 {
		t.Errorf("only %d were held", held)
	}
	for _, second := range []int{math.MinInt, 0, 1, 2, 7, 10, 99, 100, 101, 1000} {
		for wait := 1; wait <= 1000; wait++ {
			if !wantAwaited(t, timed(100, second), of(1, 1, 1000, 1000-wait, 100)) {
				t.Fatalf("a second of %d, a wait of %d", second, wait)
			}
		}
	}
}

// Where none ever comes, one second is told, and there is none behind it, nor at the last tick.
func TestP23_3WhereNoneEverComes(t *testing.T) {
	for _, b := range []bucket.Bucket{of(2, 0, 10, 9, 100), of(1, 0, 1, 0, 0), of(1, 1, 10, 0, lastTick-9), of(1, 1000, 1000, 0, lastTick), {}, of(2, 1, 10, 21, 100)} {
		x := timed(b.Now, 10)
		fate, left, wait := shed.Decide(x, b)
		if fate != many || wait != 1 {
			t.Errorf("Decide(%s, %s) = %d, %d", showLook(x), showBucket(b), fate, wait)
		}
		for _, tick := range []int{left.Now + 10, left.Now + 1000, lastTick} {
			if bucket.Has(bucket.At(left, tick)) > 0 {
				t.Errorf("of %s there is a token at the tick %d", showBucket(b), tick)
			}
		}
	}
}

// What came in stays as it was, and what is answered has nothing in common with it.
func TestP23_3WhatCameInStaysAsItWas(t *testing.T) {
	x, b := timed(107, 10), of(3, 2, 10, 4, 100)
	_, left, _ := shed.Decide(x, b)
	left.Level, left.Now = 0, 999
	shed.Fits(x)
	if x != timed(107, 10) || b != of(3, 2, 10, 4, 100) {
		t.Errorf("%s, %s", showLook(x), showBucket(b))
	}
	wantAdmit(t, x, b, of(3, 2, 10, 8, 107))
}
