package tags_test

import (
	"math"
	"math/big"
	"math/rand"
	"slices"
	"strconv"
	"strings"
	"testing"

	"footman/api"
	"footman/tags"
)

const (
	mostWork  = 1099511627776
	endOfTime = 2305843009213693952
)

// The numbers about each bound, and to both ends of what an int can tell.
var (
	weights = []int{math.MinInt, -1 << 32, -17, -16, -2, -1, 0, 1, 2, 3, 5, 7, 8, 11, 13, 15, 16, 17, 18, 32, 256, 1<<32 + 1, endOfTime, math.MaxInt}
	works   = []int{math.MinInt, -mostWork, -1 << 32, -2, -1, 0, 1, 2, 720720, 1 << 32, mostWork - 1, mostWork, mostWork + 1, 2 * mostWork, endOfTime, math.MaxInt}
	times   = []int{math.MinInt, -endOfTime - 1, -endOfTime, -1, 0, 1, 720720, mostWork, mostWork + 1, endOfTime - 1, endOfTime, endOfTime + 1, 2 * endOfTime, math.MaxInt}
)

// behind is what stands in the room behind a list that is handed in: it would come first, and may not be served.
var behind = []tags.Tag{of(-1, math.MinInt, -2, -3), of(1, math.MinInt, 0, 0), of(17, math.MinInt, 7, 7)}

func of(weight, start, finish, work int) tags.Tag {
	return tags.Tag{Weight: weight, Start: start, Finish: finish, Work: work}
}

// begun are new flows of these weights.
func begun(weights ...int) []tags.Tag {
	var l []tags.Tag
	for _, w := range weights {
		l = append(l, of(w, 0, 0, 0))
	}
	return l
}

// starting are flows that start then, all else of them by their places.
func starting(starts ...int) []tags.Tag {
	var l []tags.Tag
	for i, s := range starts {
		l = append(l, of(1+i%16, s, 1000-i, 7*i%5))
	}
	return l
}

func show(l ...tags.Tag) string {
	var b strings.Builder
	for i, x := range l {
		if i == 12 {
			return b.String() + " of " + strconv.Itoa(len(l))
		}
		b.WriteString("{" + strconv.Itoa(x.Weight) + " " + strconv.Itoa(x.Start) + " " + strconv.Itoa(x.Finish) + " " + strconv.Itoa(x.Work) + "}")
	}
	return b.String()
}

func num(n int) *big.Int { return big.NewInt(int64(n)) }

func plus(a, b *big.Int) *big.Int { return new(big.Int).Add(a, b) }

func minus(a, b *big.Int) *big.Int { return new(big.Int).Sub(a, b) }

func product(a, b *big.Int) *big.Int { return new(big.Int).Mul(a, b) }

// upTo tells whether a number without range lies from a least to a greatest one.
func upTo(n *big.Int, least, greatest int) bool {
	return n.Cmp(num(least)) >= 0 && n.Cmp(num(greatest)) <= 0
}

func modelCheck(x tags.Tag) api.Errno {
	switch {
	case !upTo(num(x.Weight), 1, 16):
	case !upTo(num(x.Work), 0, mostWork):
	case !upTo(num(x.Start), 0, endOfTime):
	case !upTo(num(x.Finish), 0, endOfTime):
	default:
		return 0
	}
	return 8
}

func modelCharge(t *testing.T, cost, weight int) (*big.Int, api.Errno) {
	t.Helper()
	if !upTo(num(cost), 0, mostWork) || !upTo(num(weight), 1, 16) {
		return num(0), 8
	}
	n, left := new(big.Int).QuoRem(product(num(cost), num(720720)), num(weight), new(big.Int))
	if left.Sign() != 0 {
		t.Errorf("the charge of %d at %d is no whole number", cost, weight)
	}
	return n, 0
}

func modelWake(v int, x tags.Tag) tags.Tag {
	start := x.Finish
	if num(v).Cmp(num(start)) > 0 {
		start = v
	}
	if modelCheck(x) != 0 || !upTo(num(v), 0, endOfTime) {
		start = x.Start
	}
	return of(x.Weight, start, x.Finish, x.Work)
}

func modelServe(t *testing.T, v int, x tags.Tag, cost int) (int, tags.Tag, api.Errno) {
	t.Helper()
	charge, e := modelCharge(t, cost, x.Weight)
	end, work := plus(num(x.Start), charge), plus(num(x.Work), num(cost))
	switch {
	case modelCheck(x) != 0 || e != 0:
		return v, x, 8
	case !upTo(work, 0, mostWork) || !upTo(end, 0, endOfTime):
		return v, x, 7
	}
	at := int(end.Int64())
	return x.Start, of(x.Weight, at, at, int(work.Int64())), 0
}

// modelFirst asks of each place whether all ahead of it start later, and none behind it earlier.
func modelFirst(l []tags.Tag) int {
	for i, x := range l {
		ahead := !slices.ContainsFunc(l[:i], func(y tags.Tag) bool { return y.Start <= x.Start })
		if ahead && !slices.ContainsFunc(l[i+1:], func(y tags.Tag) bool { return y.Start < x.Start }) {
			return i
		}
	}
	return -1
}

func modelNear(a, b tags.Tag, from [2]int, quantum int) bool {
	for _, n := range []int{from[0], from[1], quantum} {
		if !upTo(num(n), 0, mostWork) {
			return false
		}
	}
	if modelCheck(a) != 0 || modelCheck(b) != 0 || num(from[0]).Cmp(num(a.Work)) > 0 || num(from[1]).Cmp(num(b.Work)) > 0 {
		return false
	}
	one := product(minus(num(a.Work), num(from[0])), num(b.Weight))
	other := product(minus(num(b.Work), num(from[1])), num(a.Weight))
	return minus(one, other).CmpAbs(product(num(quantum), plus(num(a.Weight), num(b.Weight)))) <= 0
}

func roomy(l []tags.Tag) []tags.Tag { return append(slices.Clone(l), behind...)[:len(l)] }

// wantStill wants a roomy copy of l, with its room, to be as it was.
func wantStill(t *testing.T, given, l []tags.Tag) {
	t.Helper()
	if !slices.Equal(given, l) || !slices.Equal(given[:len(l)+len(behind)][len(l):], behind) {
		t.Errorf("what came in was changed: %s, not %s", show(given...), show(l...))
	}
}

func wantCharge(t *testing.T, cost, weight, want int, wantE api.Errno) {
	t.Helper()
	if n, e := tags.Charge(cost, weight); n != want || e != wantE {
		t.Errorf("Charge(%d, %d) = %d, %d, want %d, %d", cost, weight, n, e, want, wantE)
	}
}

func wantCheck(t *testing.T, x tags.Tag, want api.Errno) {
	t.Helper()
	if e := tags.Check(x); e != want {
		t.Errorf("Check(%s) = %d, want %d", show(x), e, want)
	}
}

func wantNew(t *testing.T, weight int, want tags.Tag, wantE api.Errno) {
	t.Helper()
	if x, e := tags.New(weight); x != want || e != wantE {
		t.Errorf("New(%d) = %s, %d, want %s, %d", weight, show(x), e, show(want), wantE)
	}
}

func wantWake(t *testing.T, v int, x, want tags.Tag) {
	t.Helper()
	if y := tags.Wake(v, x); y != want {
		t.Errorf("Wake(%d, %s) = %s, want %s", v, show(x), show(y), show(want))
	}
}

func wantServe(t *testing.T, v int, x tags.Tag, cost, wantV int, want tags.Tag, wantE api.Errno) {
	t.Helper()
	if n, y, e := tags.Serve(v, x, cost); n != wantV || y != want || e != wantE {
		t.Errorf("Serve(%d, %s, %d) = %d, %s, %d, want %d, %s, %d", v, show(x), cost, n, show(y), e, wantV, show(want), wantE)
	}
}

// wantNotServed wants that error, and all else as it was, whatever virtual time is.
func wantNotServed(t *testing.T, x tags.Tag, cost int, want api.Errno) {
	t.Helper()
	for _, v := range times {
		wantServe(t, v, x, cost, v, x, want)
	}
}

func wantFirst(t *testing.T, l []tags.Tag, want int) {
	t.Helper()
	given := roomy(l)
	if i := tags.First(given); i != want || modelFirst(l) != want {
		t.Errorf("First(%s) = %d, want %d", show(l...), i, want)
	}
	wantStill(t, given, l)
}

// oneByOne is Serve of First, one behind the other.
func oneByOne(l []tags.Tag, costs []int) ([]tags.Tag, []int) {
	l = slices.Clone(l)
	var who []int
	for _, cost := range costs {
		at := -1
		if i := tags.First(l); i >= 0 && cost > 0 {
			if _, x, e := tags.Serve(99, l[i], cost); e == api.OK {
				l[i], at = x, i
			}
		}
		who = append(who, at)
	}
	return l, who
}

// wantRun wants what oneByOne tells, in new memory, and all that came in as it was.
func wantRun(t *testing.T, l []tags.Tag, costs []int) ([]tags.Tag, []int) {
	t.Helper()
	given, paid := roomy(l), append(slices.Clone(costs), 3, 4, 5)
	now, who := tags.Run(given, paid[:len(costs)])
	wantNow, wantWho := oneByOne(l, costs)
	if !slices.Equal(now, wantNow) || !slices.Equal(who, wantWho) {
		t.Errorf("Run(%s, %v) = %s, %v, want %s, %v", show(l...), costs, show(now...), who, show(wantNow...), wantWho)
	}
	if !slices.Equal(now, l) { // else it may be the list that came in
		wipe(now, of(-5, -5, -5, -5))
	}
	wipe(who, -12345)
	wantStill(t, given, l)
	if !slices.Equal(paid, append(slices.Clone(costs), 3, 4, 5)) {
		t.Errorf("the costs were changed: %v, not %v", paid, costs)
	}
	return wantNow, wantWho
}

// wipe writes over a list and the room behind it.
func wipe[T any](l []T, x T) {
	l = l[:cap(l)]
	for i := range l {
		l[i] = x
	}
}

func wantPlaces(t *testing.T, l []tags.Tag, costs, want []int) []tags.Tag {
	t.Helper()
	now, who := wantRun(t, l, costs)
	if !slices.Equal(who, want) || len(who) != len(costs) {
		t.Errorf("Run(%s, %v) serves %v, want %v", show(l...), costs, who, want)
	}
	return now
}

// wantNear asks both ways round.
func wantNear(t *testing.T, a, b tags.Tag, from [2]int, quantum int, want bool) {
	t.Helper()
	there := tags.Near(a, b, from, quantum)
	back := tags.Near(b, a, [2]int{from[1], from[0]}, quantum)
	if there != want || back != want {
		t.Errorf("Near(%s, %s, %v, %d) = %t, and round about %t, want %t", show(a), show(b), from, quantum, there, back, want)
	}
}

func TestP25_1ChargeOfOneUnit(t *testing.T) {
	want := []int{720720, 360360, 240240, 180180, 144144, 120120, 102960, 90090, 80080, 72072, 65520, 60060, 55440, 51480, 48048, 45045}
	for i, n := range want {
		wantCharge(t, 1, i+1, n, 0)
		wantCharge(t, i+1, i+1, 720720, 0)
		wantCharge(t, 0, i+1, 0, 0)
		if tags.Scale%(i+1) != 0 || tags.Scale/(i+1) != n {
			t.Errorf("Scale by %d: %d", i+1, tags.Scale/(i+1))
		}
	}
}

func TestP25_1ChargeOfAllWeights(t *testing.T) {
	wantCharge(t, mostWork, 1, 792440020370718720, 0)
	wantCharge(t, mostWork, 16, 49527501273169920, 0)
	wantCharge(t, mostWork, 7, 113205717195816960, 0)
	r := rand.New(rand.NewSource(251))
	for w := 1; w <= 16; w++ {
		costs := []int{0, 1, 2, 3, 16, 17, 1 << 20, 1 << 31, 1 << 32, mostWork / 2, mostWork - 1, mostWork}
		for range 200 {
			costs = append(costs, r.Intn(mostWork+1))
		}
		for _, cost := range costs {
			n, e := modelCharge(t, cost, w)
			wantCharge(t, cost, w, int(n.Int64()), e)
		}
	}
}

func TestP25_1ChargeOutOfBounds(t *testing.T) {
	for _, w := range []int{1, 2, 7, 15, 16} {
		for _, cost := range []int{mostWork + 1, mostWork + 2, 2 * mostWork, endOfTime, math.MaxInt, -1, -2, -mostWork, math.MinInt} {
			wantCharge(t, cost, w, 0, 8)
		}
	}
	for _, w := range []int{0, 17, 18, 32, 1 << 32, 1<<32 + 1, math.MaxInt, -1, -2, -16, math.MinInt} {
		for _, cost := range []int{0, 1, 5, mostWork, mostWork + 1, math.MaxInt, -1, math.MinInt} {
			wantCharge(t, cost, w, 0, 8)
		}
	}
	for _, cost := range works {
		for _, w := range weights {
			n, e := modelCharge(t, cost, w)
			wantCharge(t, cost, w, int(n.Int64()), e)
		}
	}
}

func TestP25_1CheckOfEachNumber(t *testing.T) {
	wantCheck(t, of(1, 0, 0, 0), 0)
	wantCheck(t, of(16, endOfTime, endOfTime, mostWork), 0)
	wantCheck(t, of(3, 5, 4, 3), 0) // Start is above Finish, or below it
	wantCheck(t, of(3, 4, 5, 3), 0)
	wantCheck(t, tags.Tag{}, 8)
	for w := -20; w <= 40; w++ {
		want := api.ErrRange
		if w >= 1 && w <= 16 {
			want = api.OK
		}
		wantCheck(t, of(w, 0, 0, 0), want)
		wantCheck(t, of(w, endOfTime, endOfTime, mostWork), want)
		wantCheck(t, of(w, 5, 9, 7), want)
	}
	for _, x := range []tags.Tag{of(1, 0, 0, 0), of(7, 1000, 900, 12), of(16, endOfTime, endOfTime, mostWork)} {
		for _, n := range []int{0, 1, mostWork - 1, mostWork} {
			wantCheck(t, of(x.Weight, x.Start, x.Finish, n), 0)
		}
		for _, n := range []int{mostWork + 1, 2 * mostWork, endOfTime, math.MaxInt, -1, -mostWork, math.MinInt} {
			wantCheck(t, of(x.Weight, x.Start, x.Finish, n), 8)
		}
		for _, n := range []int{0, 1, mostWork, mostWork + 1, endOfTime - 1, endOfTime} {
			wantCheck(t, of(x.Weight, n, x.Finish, x.Work), 0)
			wantCheck(t, of(x.Weight, x.Start, n, x.Work), 0)
		}
		for _, n := range []int{endOfTime + 1, endOfTime + 2, 2 * endOfTime, math.MaxInt, -1, -2, -endOfTime, math.MinInt} {
			wantCheck(t, of(x.Weight, n, x.Finish, x.Work), 8)
			wantCheck(t, of(x.Weight, x.Start, n, x.Work), 8)
		}
	}
}

func TestP25_1CheckOfAllNumbersTogether(t *testing.T) {
	for _, w := range weights {
		for _, start := range times {
			for _, finish := range times {
				for _, work := range works {
					x := of(w, start, finish, work)
					wantCheck(t, x, modelCheck(x))
				}
			}
		}
	}
}

func TestP25_1New(t *testing.T) {
	for w := 1; w <= 16; w++ {
		wantNew(t, w, tags.Tag{Weight: w}, 0)
	}
	for _, w := range []int{0, -1, -2, -16, 17, 18, 32, 256, 257, 1 << 32, 1<<32 + 1, endOfTime, math.MaxInt, math.MinInt, math.MinInt + 1} {
		wantNew(t, w, tags.Tag{}, 8)
	}
}

func TestP25_2WakeByTheGreaterOne(t *testing.T) {
	for _, start := range []int{0, 3, 50, 99, 100, 101, 500, endOfTime} { // below Finish, at it, above it
		x := of(5, start, 100, 7)
		wantWake(t, 99, x, of(5, 100, 100, 7))
		wantWake(t, 100, x, of(5, 100, 100, 7))
		wantWake(t, 101, x, of(5, 101, 100, 7))
		wantWake(t, 0, x, of(5, 100, 100, 7))
		wantWake(t, 1, x, of(5, 100, 100, 7))
		wantWake(t, endOfTime-1, x, of(5, endOfTime-1, 100, 7))
		wantWake(t, endOfTime, x, of(5, endOfTime, 100, 7))
	}
	wantWake(t, 0, of(1, 0, 0, 0), of(1, 0, 0, 0))
	wantWake(t, 0, of(1, 9, 0, 0), of(1, 0, 0, 0))
	wantWake(t, 0, of(16, 9, endOfTime, mostWork), of(16, endOfTime, endOfTime, mostWork))
	wantWake(t, endOfTime, of(16, 9, endOfTime, mostWork), of(16, endOfTime, endOfTime, mostWork))
}

func TestP25_2WakeAsItIs(t *testing.T) {
	for _, v := range []int{-1, -2, -endOfTime, math.MinInt, endOfTime + 1, endOfTime + 2, 2 * endOfTime, math.MaxInt} {
		for _, x := range []tags.Tag{of(5, 3, 100, 7), of(5, 100, 3, 7), of(1, 0, 0, 0), of(16, endOfTime, endOfTime, mostWork)} {
			wantWake(t, v, x, x)
		}
	}
	for _, x := range []tags.Tag{
		{}, of(0, 3, 100, 7), of(17, 3, 100, 7), of(-1, 3, 100, 7), of(math.MaxInt, 3, 100, 7),
		of(5, -1, 100, 7), of(5, endOfTime+1, 100, 7), of(5, math.MinInt, 100, 7), of(5, math.MaxInt, 100, 7),
		of(5, 3, -1, 7), of(5, 3, endOfTime+1, 7), of(5, 3, math.MinInt, 7), of(5, 3, math.MaxInt, 7),
		of(5, 3, 100, -1), of(5, 3, 100, mostWork+1), of(5, 3, 100, math.MinInt), of(5, 3, 100, math.MaxInt),
	} {
		for _, v := range times {
			wantWake(t, v, x, x)
		}
	}
}

func TestP25_2WakeOfAllNumbersTogether(t *testing.T) {
	for _, w := range []int{-1, 0, 1, 9, 16, 17} {
		for _, start := range times {
			for _, finish := range times {
				for _, work := range []int{-1, 0, 4, mostWork, mostWork + 1} {
					for _, v := range times {
						x := of(w, start, finish, work)
						wantWake(t, v, x, modelWake(v, x))
					}
				}
			}
		}
	}
}

func TestP25_2ServeFieldByField(t *testing.T) {
	for _, v := range times { // nothing is asked of it
		wantServe(t, v, of(3, 100, 40, 5), 6, 100, of(3, 1441540, 1441540, 11), 0)
		wantServe(t, v, of(3, 40, 100, 5), 6, 40, of(3, 1441480, 1441480, 11), 0)
		wantServe(t, v, of(1, 0, 0, 0), 1, 0, of(1, 720720, 720720, 1), 0)
		wantServe(t, v, of(16, 9, 9, 9), 16, 9, of(16, 720729, 720729, 25), 0)
		wantServe(t, v, of(1, 0, endOfTime, 0), mostWork, 0, of(1, 792440020370718720, 792440020370718720, mostWork), 0)
	}
	for w := 1; w <= 16; w++ { // a cost of 0 may be
		wantServe(t, 3, of(w, 100, 40, 5), 0, 100, of(w, 100, 100, 5), 0)
		wantServe(t, 3, of(w, endOfTime, 40, mostWork), 0, endOfTime, of(w, endOfTime, endOfTime, mostWork), 0)
	}
}

func TestP25_2ServeUpToItsEnds(t *testing.T) {
	for w := 1; w <= 16; w++ {
		for _, cost := range []int{1, 2, 7, 16, 1 << 33, mostWork - 1, mostWork} {
			c, _ := modelCharge(t, cost, w)
			charge := int(c.Int64())
			wantServe(t, 5, of(w, endOfTime-charge, 1, 0), cost, endOfTime-charge, of(w, endOfTime, endOfTime, cost), 0)
			wantServe(t, 5, of(w, endOfTime-charge-1, 1, 0), cost, endOfTime-charge-1, of(w, endOfTime-1, endOfTime-1, cost), 0)
			wantNotServed(t, of(w, endOfTime-charge+1, 1, 0), cost, 7)
			wantServe(t, 5, of(w, 3, 1, mostWork-cost), cost, 3, of(w, 3+charge, 3+charge, mostWork), 0)
			wantNotServed(t, of(w, 3, 1, mostWork-cost+1), cost, 7)
			wantServe(t, 5, of(w, endOfTime-charge, 1, mostWork-cost), cost, endOfTime-charge, of(w, endOfTime, endOfTime, mostWork), 0)
			wantNotServed(t, of(w, endOfTime-charge+1, 1, mostWork-cost+1), cost, 7)
			wantNotServed(t, of(w, endOfTime, endOfTime, 0), cost, 7)
			wantNotServed(t, of(w, 0, 0, mostWork), cost, 7)
			wantNotServed(t, of(w, endOfTime, endOfTime, mostWork), cost, 7)
		}
	}
}

// What Check and Charge refuse goes ahead of what would be too much.
func TestP25_2ServeOutOfBoundsAheadOfFull(t *testing.T) {
	for _, cost := range []int{-1, -2, -mostWork, math.MinInt, mostWork + 1, 2 * mostWork, endOfTime, math.MaxInt} {
		for _, x := range []tags.Tag{of(1, 0, 0, 0), of(16, endOfTime, 0, 0), of(1, 0, 0, mostWork), of(5, endOfTime, endOfTime, mostWork)} {
			wantNotServed(t, x, cost, 8)
		}
	}
	for _, x := range []tags.Tag{
		{}, of(0, endOfTime, 0, mostWork), of(17, endOfTime, 0, mostWork), of(-1, 0, 0, 0), of(math.MinInt, 0, 0, 0),
		of(5, -1, 0, mostWork), of(5, endOfTime+1, 0, mostWork), of(5, math.MaxInt, 0, 0), of(5, math.MinInt, 0, 0),
		of(5, endOfTime, -1, mostWork), of(5, endOfTime, endOfTime+1, mostWork), of(5, 0, math.MaxInt, 0), of(5, 0, math.MinInt, 0),
		of(5, endOfTime, 0, -1), of(5, endOfTime, 0, mostWork+1), of(5, 0, 0, math.MaxInt), of(5, 0, 0, math.MinInt),
	} {
		for _, cost := range []int{0, 1, 5, mostWork, -1, mostWork + 1, math.MaxInt, math.MinInt} {
			wantNotServed(t, x, cost, 8)
		}
	}
	wantNotServed(t, of(5, endOfTime, 0, mostWork), 1, 7)
}

func TestP25_2ServeOfAllNumbersTogether(t *testing.T) {
	for _, w := range []int{-1, 0, 1, 9, 16, 17, math.MaxInt} {
		for _, start := range times {
			for _, finish := range []int{-1, 0, 8, endOfTime, endOfTime + 1} {
				for _, work := range works {
					for _, cost := range works {
						x := of(w, start, finish, work)
						v, y, e := modelServe(t, 77, x, cost)
						wantServe(t, 77, x, cost, v, y, e)
					}
				}
			}
		}
	}
}

func TestP25_3First(t *testing.T) {
	wantFirst(t, nil, -1)
	wantFirst(t, []tags.Tag{}, -1)
	wantFirst(t, []tags.Tag{{}}, 0)
	for _, s := range times {
		wantFirst(t, starting(s), 0)
		wantFirst(t, starting(s, s), 0)
		wantFirst(t, starting(s, s, s), 0)
	}
	wantFirst(t, starting(1, 2, 3), 0)
	wantFirst(t, starting(2, 1, 3), 1)
	wantFirst(t, starting(3, 2, 1), 2)
	wantFirst(t, starting(3, 1, 2, 1), 1)
	wantFirst(t, starting(3, 2, 1, 1, 1), 2)
	wantFirst(t, starting(0, -1, -2, -2, 5), 2)
	wantFirst(t, starting(math.MaxInt, math.MinInt, 0, math.MinInt), 1)
	wantFirst(t, starting(math.MaxInt, math.MaxInt-1), 1)
	wantFirst(t, starting(math.MinInt+1, math.MinInt), 1)
	wantFirst(t, starting(0, math.MinInt, math.MaxInt), 1)
	wantFirst(t, []tags.Tag{of(16, 4, 0, 0), of(1, 3, 9, 9), of(99, 3, -7, -7)}, 1) // Start alone counts
	wantFirst(t, []tags.Tag{of(1, 3, 9, 9), of(0, 2, math.MaxInt, math.MaxInt)}, 1)
}

func TestP25_3FirstAtEachPlace(t *testing.T) {
	for n := 1; n <= 40; n++ {
		for i := range n {
			starts := slices.Repeat([]int{7}, n)
			starts[i] = 6
			wantFirst(t, starting(starts...), i)
			starts[n-1] = 6
			wantFirst(t, starting(starts...), i)
			starts[n-1], starts[i] = 7, -6
			wantFirst(t, starting(starts...), i)
		}
	}
}

// eachList gives all lists of up to n of these numbers.
func eachList(n int, numbers []int, yield func(l []int)) {
	var longer func(l []int)
	longer = func(l []int) {
		yield(l)
		if len(l) == n {
			return
		}
		for _, x := range numbers {
			longer(append(slices.Clone(l), x))
		}
	}
	longer(nil)
}

func TestP25_3FirstOfAllShortLists(t *testing.T) {
	eachList(6, []int{math.MinInt, -1, 0, 1, math.MaxInt}, func(starts []int) {
		l := starting(starts...)
		wantFirst(t, l, modelFirst(l))
	})
}

func TestP25_3RunOfExamples(t *testing.T) {
	now := wantPlaces(t, begun(1, 2), []int{6, 6, 6, 6, 6, 6}, []int{0, 1, 1, 0, 1, 1})
	if !slices.Equal(now, []tags.Tag{of(1, 12*720720, 12*720720, 12), of(2, 12*720720, 12*720720, 24)}) {
		t.Errorf("%s", show(now...))
	}
	now = wantPlaces(t, []tags.Tag{of(1, 5, 99, 1), of(16, 4, 0, 2)}, []int{16, 2, 1}, []int{1, 0, 1})
	if !slices.Equal(now, []tags.Tag{of(1, 1441445, 1441445, 3), of(16, 765769, 765769, 19)}) {
		t.Errorf("%s", show(now...))
	}
}

func TestP25_3RunOfNone(t *testing.T) {
	for _, l := range [][]tags.Tag{nil, {}} {
		wantPlaces(t, l, nil, nil)
		wantPlaces(t, l, []int{}, []int{})
		wantPlaces(t, l, []int{1, 0, -1, mostWork, math.MaxInt, math.MinInt}, []int{-1, -1, -1, -1, -1, -1})
	}
	for _, l := range [][]tags.Tag{begun(1), begun(3, 2), {{}}, starting(-1, 4)} {
		for _, costs := range [][]int{nil, {}} {
			if now := wantPlaces(t, l, costs, nil); !slices.Equal(now, l) {
				t.Errorf("%s of %s", show(now...), show(l...))
			}
		}
	}
}

func TestP25_3RunOfNoCostsAmongOthers(t *testing.T) {
	wantPlaces(t, begun(1, 1), []int{0, 3, 0, -1, 3, math.MinInt, 3, 0}, []int{-1, 0, -1, -1, 1, -1, 0, -1})
	l := []tags.Tag{of(4, 10, 3, 1), of(5, 9, 30, 2)} // Finish of a cost of 0 would be Start
	for _, costs := range [][]int{{0}, {-1}, {0, 0, -7, math.MinInt}} {
		if now, who := wantRun(t, l, costs); !slices.Equal(now, l) || slices.Max(who) != -1 {
			t.Errorf("%v: %s, %v", costs, show(now...), who)
		}
	}
}

func TestP25_3RunOfErrors(t *testing.T) {
	wantPlaces(t, begun(1, 1), []int{mostWork + 1, 5, math.MaxInt, 5, 5}, []int{-1, 0, -1, 1, 0})
	l := []tags.Tag{of(1, 0, 0, mostWork-5), of(1, 1, 0, 0)} // the first one has room for five units
	wantPlaces(t, l, []int{6, 7, 5, 6, 5}, []int{-1, -1, 0, 1, -1})
	now := wantPlaces(t, l, []int{6, 7, mostWork}, []int{-1, -1, -1})
	if !slices.Equal(now, l) {
		t.Errorf("%s", show(now...))
	}
	l = []tags.Tag{of(1, endOfTime, 0, 0), of(2, endOfTime-720720, 0, 0), of(2, endOfTime-360360, 0, 3)}
	wantPlaces(t, l, []int{3, 2, 1, 1}, []int{-1, 1, 2, -1})
	for _, bad := range []tags.Tag{{}, of(17, 0, 0, 0), of(1, -1, 0, 0), of(1, math.MinInt, 0, 0), of(1, 0, -1, 0), of(1, 0, 0, -1), of(1, 0, 0, mostWork+1)} {
		now := wantPlaces(t, []tags.Tag{of(1, 1, 0, 0), bad, of(1, 0, 0, 0)}, []int{1, 2, 0, 3}, []int{-1, -1, -1, -1})
		if !slices.Equal(now, []tags.Tag{of(1, 1, 0, 0), bad, of(1, 0, 0, 0)}) {
			t.Errorf("%s", show(now...))
		}
	}
	late := of(0, 720720, 0, 0) // nobody asks it, till it is the first one
	wantPlaces(t, []tags.Tag{of(2, 0, 0, 0), late}, []int{1, 1, 1, 1}, []int{0, 0, 0, -1})
	wantPlaces(t, []tags.Tag{late, of(2, 0, 0, 0)}, []int{1, 1, 1, 1}, []int{1, 1, -1, -1})
}

func TestP25_3RunOfAllShortLists(t *testing.T) {
	kinds := []tags.Tag{of(1, 0, 0, 0), of(2, 0, 5, 0), of(3, 240240, 0, 9), of(16, 1, 0, mostWork-2), of(17, 2, 0, 0)}
	eachList(3, []int{0, 1, 2, 3, 4}, func(places []int) {
		var l []tags.Tag
		for _, i := range places {
			l = append(l, kinds[i])
		}
		eachList(4, []int{0, 1, 3, mostWork}, func(costs []int) { wantRun(t, l, costs) })
	})
}

// anyTag is one by chance, that may be, or hardly.
func anyTag(r *rand.Rand) tags.Tag {
	some := func(near int, far []int) int {
		if r.Intn(40) == 0 {
			return far[r.Intn(len(far))]
		}
		return r.Intn(near)
	}
	return of(1+some(16, weights), some(5, times)*360360, some(9, times), some(50, works))
}

func TestP25_3RunByChance(t *testing.T) {
	r := rand.New(rand.NewSource(253))
	for range 20000 {
		var l []tags.Tag
		for range r.Intn(9) {
			l = append(l, anyTag(r))
		}
		var costs []int
		for range r.Intn(30) {
			if r.Intn(15) == 0 {
				costs = append(costs, works[r.Intn(len(works))])
			}
			costs = append(costs, r.Intn(12))
		}
		wantFirst(t, l, modelFirst(l))
		wantRun(t, l, costs)
	}
}

func TestP25_4NearByHand(t *testing.T) {
	a, b := of(1, 0, 0, 10), of(2, 0, 0, 14)
	wantNear(t, a, b, [2]int{}, 2, true) // 20 and 14 differ by 6, which is 2 times 3
	wantNear(t, a, b, [2]int{}, 1, false)
	wantNear(t, a, b, [2]int{0, 1}, 2, false)
	wantNear(t, a, b, [2]int{0, 1}, 3, true)
	wantNear(t, a, b, [2]int{1, 0}, 2, true)
	wantNear(t, a, b, [2]int{10, 0}, 4, false) // 0 and 14
	wantNear(t, a, b, [2]int{10, 0}, 5, true)
	wantNear(t, a, b, [2]int{10, 14}, 0, true)
	wantNear(t, a, b, [2]int{10, 13}, 0, false)
	wantNear(t, a, b, [2]int{3, 0}, 0, true) // 14 and 14
	wantNear(t, of(5, 1, 2, 9), of(5, 3, 4, 9), [2]int{}, 0, true)
	wantNear(t, of(1, endOfTime, 0, 3), of(1, 0, endOfTime, 3), [2]int{}, 0, true) // virtual time is nothing here
}

func TestP25_4NearAtItsBound(t *testing.T) {
	for wa := 1; wa <= 16; wa++ {
		for wb := 1; wb <= 16; wb++ {
			for _, q := range []int{1, 2, 7, 1000, 1 << 30} {
				a, b := of(wa, 0, 0, q+q*wa+50), of(wb, 0, 0, q*wb-q+60) // both by the other's weight differ by q times both weights
				from := [2]int{50, 60}
				wantNear(t, a, b, from, q, true)
				wantNear(t, a, b, from, q-1, false)
				wantNear(t, a, b, from, q+1, true)
				wantNear(t, a, b, [2]int{49, 60}, q, false)
				wantNear(t, a, b, [2]int{51, 60}, q, true)
				wantNear(t, a, b, [2]int{50, 59}, q, true)
				wantNear(t, of(wa, 0, 0, a.Work+1), b, from, q, false)
				wantNear(t, a, of(wb, 0, 0, b.Work+1), from, q, true)
				if b.Work > 60 {
					wantNear(t, a, b, [2]int{50, 61}, q, false)
				}
			}
		}
	}
}

func TestP25_4NearOutOfBounds(t *testing.T) {
	good := of(3, 8, 9, 10)
	wantNear(t, good, good, [2]int{}, 0, true)
	for _, n := range []int{11, 12, mostWork, mostWork + 1, math.MaxInt, -1, -2, -mostWork, math.MinInt} { // from is above Work, or below 0
		wantNear(t, good, good, [2]int{n, 0}, mostWork, false)
		wantNear(t, good, good, [2]int{0, n}, mostWork, false)
		wantNear(t, good, good, [2]int{n, n}, mostWork, false)
	}
	for n := range 11 {
		wantNear(t, good, good, [2]int{n, n}, 0, true)
		wantNear(t, good, good, [2]int{n, 10 - n}, mostWork, true)
	}
	for _, q := range []int{-1, -2, -mostWork, math.MinInt, mostWork + 1, 2 * mostWork, math.MaxInt} {
		wantNear(t, good, good, [2]int{}, q, false)
		wantNear(t, good, good, [2]int{10, 10}, q, false)
	}
	for _, bad := range []tags.Tag{
		{}, of(0, 8, 9, 10), of(17, 8, 9, 10), of(-3, 8, 9, 10), of(math.MaxInt, 8, 9, 10), of(math.MinInt, 8, 9, 10),
		of(3, -1, 9, 10), of(3, endOfTime+1, 9, 10), of(3, 8, -1, 10), of(3, 8, endOfTime+1, 10), of(3, 8, 9, -1), of(3, 8, 9, mostWork+1), of(3, 8, 9, math.MaxInt),
	} {
		for _, q := range []int{0, 5, mostWork} {
			wantNear(t, bad, good, [2]int{}, q, false)
			wantNear(t, bad, bad, [2]int{}, q, false)
			wantNear(t, bad, good, [2]int{0, 10}, q, false)
		}
	}
}

func TestP25_4NearOfTheGreatestNumbers(t *testing.T) {
	all, none := of(16, endOfTime, endOfTime, mostWork), of(16, 0, 0, 0)
	wantNear(t, all, all, [2]int{}, mostWork, true)
	wantNear(t, all, none, [2]int{}, mostWork, true) // 2^44 and 0; at most 2^45
	wantNear(t, all, none, [2]int{}, mostWork/2, true)
	wantNear(t, all, none, [2]int{}, mostWork/2-1, false)
	wantNear(t, all, none, [2]int{}, 0, false)
	wantNear(t, all, none, [2]int{mostWork, 0}, 0, true)
	wantNear(t, all, of(1, 0, 0, mostWork), [2]int{}, mostWork, true)
	wantNear(t, all, of(1, 0, 0, mostWork), [2]int{mostWork, 0}, mostWork*16/17, false) // 2^44 is no multiple of 17
	wantNear(t, all, of(1, 0, 0, mostWork), [2]int{mostWork, 0}, mostWork*16/17+1, true)
}

func TestP25_4NearOfAllNumbersTogether(t *testing.T) {
	numbers := []int{math.MinInt, -1, 0, 1, 720720, mostWork - 1, mostWork, mostWork + 1, math.MaxInt}
	for _, wa := range []int{0, 1, 16, 17} {
		for _, wb := range []int{0, 1, 7, 16} {
			for _, worked := range numbers {
				for _, from := range numbers {
					for _, other := range numbers {
						for _, q := range []int{-1, 0, 1, 720720, mostWork / 2, mostWork - 1, mostWork, mostWork + 1} {
							a, b, since := of(wa, 0, 0, worked), of(wb, 0, 0, other), [2]int{from, min(1, other)}
							wantNear(t, a, b, since, q, modelNear(a, b, since, q))
						}
					}
				}
			}
		}
	}
}

func TestP25_4NearByChance(t *testing.T) {
	r := rand.New(rand.NewSource(254))
	near := 0
	for range 200000 {
		most := []int{10, 1000, 1 << 20, mostWork}[r.Intn(4)]
		a, b := of(1+r.Intn(16), 0, 0, r.Intn(most)), of(1+r.Intn(16), 0, 0, r.Intn(most))
		from := [2]int{r.Intn(a.Work + 1), r.Intn(b.Work + 1)}
		q := r.Intn(most/3 + 1)
		want := modelNear(a, b, from, q)
		wantNear(t, a, b, from, q, want)
		if want {
			near++
		}
	}
	if near < 20000 || near > 180000 {
		t.Errorf("near were %d", near)
	}
}

// crowd is flows that always have work.
type crowd struct {
	now   []tags.Tag
	pairs []pair
}

// pair is two of a crowd, and what was done for both when the first one, by their weights, was the furthest behind the second one, and the furthest ahead of it: who is Near since these two times is Near since each.
type pair struct {
	one, other  int
	late, early [2]int
}

func newCrowd(t *testing.T, weights ...int) *crowd {
	t.Helper()
	c := &crowd{}
	for i, w := range weights {
		x, e := tags.New(w)
		if e != api.OK {
			t.Fatalf("New(%d): %d", w, e)
		}
		c.now = append(c.now, x)
		for j := range i {
			c.pairs = append(c.pairs, pair{one: j, other: i})
		}
	}
	return c
}

// work does work of a cost, and wants that just one flow's is more by it.
func (c *crowd) work(t *testing.T, cost int) int {
	t.Helper()
	now, who := tags.Run(c.now, []int{cost})
	if len(who) != 1 || who[0] < 0 || who[0] >= len(now) || len(now) != len(c.now) {
		t.Fatalf("Run(%s, %d) = %s, %v", show(c.now...), cost, show(now...), who)
	}
	for i, x := range now {
		if i == who[0] && x.Work != c.now[i].Work+cost || i != who[0] && x != c.now[i] {
			t.Fatalf("Run(%s, %d) = %s, %v", show(c.now...), cost, show(now...), who)
		}
	}
	c.now = now
	return who[0]
}

// step does work, and wants each two to be Near since all times until then.
func (c *crowd) step(t *testing.T, cost, quantum int) int {
	t.Helper()
	who := c.work(t, cost)
	for i := range c.pairs {
		c.wantFair(t, &c.pairs[i], quantum)
	}
	wantTogether(t, c.now, quantum)
	return who
}

func (c *crowd) wantFair(t *testing.T, p *pair, quantum int) {
	t.Helper()
	a, b := c.now[p.one], c.now[p.other]
	for _, from := range [][2]int{p.late, p.early} {
		if !tags.Near(a, b, from, quantum) {
			t.Fatalf("quantum %d: %s: %d and %d are not near since %v", quantum, show(c.now...), p.one, p.other, from)
		}
	}
	lead := func(done [2]int) int { return done[0]*b.Weight - done[1]*a.Weight }
	done := [2]int{a.Work, b.Work}
	if lead(done) < lead(p.late) {
		p.late = done
	}
	if lead(done) > lead(p.early) {
		p.early = done
	}
}

// wantFair wants each two to be Near since an earlier time.
func wantFair(t *testing.T, then, now []tags.Tag, quantum int) {
	t.Helper()
	for i, a := range now {
		for j, b := range now[:i] {
			if !tags.Near(a, b, [2]int{then[i].Work, then[j].Work}, quantum) {
				t.Fatalf("quantum %d: from %s to %s: %d and %d are not near", quantum, show(then...), show(now...), j, i)
			}
		}
	}
}

// wantTogether wants the Starts of each two to differ by no more than the greater one of both charges of the quantum.
func wantTogether(t *testing.T, now []tags.Tag, quantum int) {
	t.Helper()
	for i, a := range now {
		for j, b := range now[:i] {
			if d := a.Start - b.Start; max(d, -d) > quantum*720720/min(a.Weight, b.Weight) {
				t.Fatalf("quantum %d: %s: %d and %d start too far from each other", quantum, show(now...), j, i)
			}
		}
	}
}

// anyWeights are those of two to eight flows, by chance.
func anyWeights(r *rand.Rand) []int {
	var l []int
	most := []int{1, 3, 16}[r.Intn(3)]
	for range 2 + r.Intn(7) {
		l = append(l, 1+r.Intn(most))
	}
	return l
}

// anyCost is one from 1 to a quantum, often at one of both ends.
func anyCost(r *rand.Rand, quantum int) int {
	switch r.Intn(4) {
	case 0:
		return 1
	case 1:
		return quantum
	}
	return 1 + r.Intn(quantum)
}

func TestP25_5FromEachTimeToEachLaterOne(t *testing.T) {
	r := rand.New(rand.NewSource(255))
	for range 150 {
		c, quantum := newCrowd(t, anyWeights(r)...), []int{1, 2, 10, 1000, 1 << 30}[r.Intn(5)]
		then := [][]tags.Tag{c.now}
		for range 100 {
			c.step(t, anyCost(r, quantum), quantum)
			for _, at := range then {
				wantFair(t, at, c.now, quantum)
			}
			then = append(then, c.now)
		}
	}
}

func TestP25_5OfEachTwoWeights(t *testing.T) {
	r := rand.New(rand.NewSource(2550))
	for one := 1; one <= 16; one++ {
		for other := 1; other <= 16; other++ {
			c, quantum := newCrowd(t, one, other), 1+r.Intn(20)
			for range 500 {
				c.step(t, anyCost(r, quantum), quantum)
			}
		}
	}
}

func TestP25_5OfAllShortRuns(t *testing.T) {
	for _, weights := range [][]int{{1, 1}, {1, 2}, {2, 1}, {1, 16}, {16, 1}, {3, 5}, {1, 1, 1}, {3, 2, 1}, {1, 7, 16}} {
		eachList(7, []int{1, 2, 3}, func(costs []int) {
			c := newCrowd(t, weights...)
			for _, cost := range costs {
				c.step(t, cost, 3)
			}
		})
	}
}

func TestP25_5OverLongRuns(t *testing.T) {
	r := rand.New(rand.NewSource(2551))
	for _, weights := range [][]int{{1, 16}, {5, 7, 11}, {1, 2, 3, 4, 5, 6, 7, 8}, {16, 15, 14, 13, 12, 11, 10, 9}, {1, 1, 1, 1, 1, 1, 1, 16}} {
		for _, quantum := range []int{1, 2, 50, 1 << 20} {
			c := newCrowd(t, weights...)
			for range 50000 {
				c.step(t, anyCost(r, quantum), quantum)
			}
		}
	}
}

// The bound is no wider than it must be: of a quantum of one less it would not hold.
func TestP25_5TheBoundIsReached(t *testing.T) {
	c := newCrowd(t, 1, 1)
	c.work(t, 10)
	then := c.now
	for _, cost := range []int{10, 1, 10} {
		c.work(t, cost)
	}
	wantFair(t, then, c.now, 10)
	wantNear(t, c.now[0], c.now[1], [2]int{then[0].Work, then[1].Work}, 10, true) // 1 and 20
	wantNear(t, c.now[0], c.now[1], [2]int{then[0].Work, then[1].Work}, 9, false)
}

// By units alone each is served just by its weight, once all that start ahead of a whole unit's end were served.
func TestP25_5UnitByUnit(t *testing.T) {
	for _, weights := range [][]int{{1}, {16}, {1, 2}, {1, 2, 4}, {16, 1}, {3, 5, 7, 11, 13}, {1, 2, 3, 4, 5, 6, 7, 8}, {9, 10, 11, 12, 13, 14, 15, 16}} {
		c, all := newCrowd(t, weights...), 0
		for _, w := range weights {
			all += w
		}
		for rounds := 1; rounds <= 20; rounds++ {
			for range all {
				c.step(t, 1, 1)
			}
			for i, x := range c.now {
				if x != of(weights[i], rounds*720720, rounds*720720, rounds*weights[i]) {
					t.Fatalf("%v, behind %d rounds: %s", weights, rounds, show(c.now...))
				}
			}
		}
	}
}

func TestP25_5BegunLaterServedAlike(t *testing.T) {
	r := rand.New(rand.NewSource(2552))
	for range 500 {
		weights, quantum := anyWeights(r), 1+r.Intn(1000)
		var costs []int
		for range 80 {
			costs = append(costs, anyCost(r, quantum))
		}
		now, who := tags.Run(begun(weights...), costs)
		for _, later := range []int{1, 720720, 12345678901, mostWork, endOfTime - 100*1000*720720} {
			var l []tags.Tag
			for _, x := range begun(weights...) {
				l = append(l, tags.Wake(later, x))
			}
			also, whom := tags.Run(l, costs)
			if !slices.Equal(whom, who) {
				t.Fatalf("%v, later by %d: %v, not %v", weights, later, whom, who)
			}
			for i, x := range also {
				x.Start -= later
				if x.Finish > 0 { // it was served
					x.Finish -= later
				}
				if x != now[i] {
					t.Fatalf("%v, later by %d: %s, not %s", weights, later, show(also...), show(now...))
				}
			}
		}
	}
}

func TestP25_5OneFlowAlone(t *testing.T) {
	r := rand.New(rand.NewSource(2553))
	for w := 1; w <= 16; w++ {
		c, done := newCrowd(t, w), 0
		for range 1000 {
			cost := 1 + r.Intn(1<<25)
			done += cost
			if who := c.work(t, cost); who != 0 || c.now[0].Work != done {
				t.Fatalf("%d, %s", who, show(c.now...))
			}
		}
	}
}

// From the beginning to the end of what may be done at all, behind which nobody is served.
func TestP25_5UpToTheEndOfWork(t *testing.T) {
	const quantum = mostWork / 64
	for _, weights := range [][]int{{1}, {1, 1}, {4, 4, 4}, {16, 1}, {1, 16, 16}} {
		c := newCrowd(t, weights...)
		for c.now[tags.First(c.now)].Work < mostWork {
			c.step(t, quantum, quantum)
		}
		wantPlaces(t, c.now, []int{quantum, 1}, []int{-1, -1})
	}
}

// market is flows of which some sleep now and then.
type market struct {
	l     []tags.Tag
	awake []bool
	time  int
}

// turn serves one of those that have work.
func (m *market) turn(t *testing.T, cost int) {
	t.Helper()
	var places []int
	var l []tags.Tag
	for i, x := range m.l {
		if m.awake[i] {
			places, l = append(places, i), append(l, x)
		}
	}
	v, x, e := tags.Serve(m.time, l[tags.First(l)], cost)
	if e != api.OK || v < m.time {
		t.Fatalf("at %d: Serve of %s: %d, %d", m.time, show(l...), v, e)
	}
	m.l[places[tags.First(l)]] = x
	m.time = v
}

func (m *market) stir(i int) {
	m.awake[i] = !m.awake[i]
	if m.awake[i] {
		m.l[i] = tags.Wake(m.time, m.l[i])
	}
}

// Whatever others do: of the first three, which always have work, each two are Near.
func TestP25_5WhileOthersComeAndGo(t *testing.T) {
	r := rand.New(rand.NewSource(2554))
	for range 100 {
		m, quantum := &market{l: begun(1+r.Intn(16), 1+r.Intn(16), 1+r.Intn(16), 1+r.Intn(16), 1+r.Intn(16), 1+r.Intn(16)), awake: []bool{true, true, true, false, false, true}}, 1+r.Intn(30)
		then := [][]tags.Tag{slices.Clone(m.l[:3])}
		for range 200 {
			if r.Intn(3) == 0 {
				m.stir(3 + r.Intn(3))
			}
			m.turn(t, anyCost(r, quantum))
			for _, at := range then {
				wantFair(t, at, m.l[:3], quantum)
			}
			wantTogether(t, m.l[:3], quantum)
			then = append(then, slices.Clone(m.l[:3]))
		}
	}
}
