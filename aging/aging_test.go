package aging_test

import (
	"math"
	"math/rand"
	"slices"
	"strconv"
	"strings"
	"testing"

	"footman/aging"
	"footman/api"
)

const (
	mostWork   = 1099511627776
	mostStream = 2147483647
)

// The numbers about each bound, and to both ends of what an int can tell: of which some may be, and the others may not.
var (
	rightLimits = []int{1, 2, 3, 500, 999, 1000}
	wrongLimits = []int{0, -1, -2, -1000, math.MinInt, math.MinInt + 1, 1001, 1002, 2000, 1 << 32, 1<<32 + 1, math.MaxInt - 1, math.MaxInt}
	rightIDs    = []int{1, 2, 3, 1000, mostStream - 1, mostStream}
	wrongIDs    = []int{0, -1, -2, -mostStream, math.MinInt, mostStream + 1, mostStream + 2, 1 << 32, 1<<32 + 1, math.MaxInt}
	rightRanks  = []int{0, 1, 2, 3, 4, 5, 6, 7}
	wrongRanks  = []int{-1, -2, -7, -8, math.MinInt, 8, 9, 15, 256, 1 << 32, 1<<32 + 7, math.MaxInt}
	rightLefts  = []int{1, 2, 1000, 1 << 32, mostWork - 1, mostWork}
	wrongLefts  = []int{0, -1, -2, -mostWork, math.MinInt, mostWork + 1, mostWork + 2, 2 * mostWork, math.MaxInt}
	rightPassed = []int{0, 1, 999, 1000, 1001, 1999, 2000}
	wrongPassed = []int{-1, -2, -2000, math.MinInt, 2001, 2002, 4000, 1 << 32, math.MaxInt}
)

// behind is what stands in the room behind a list that is handed in: it would be served first, and may not be.
var behind = []aging.Req{of(77, 0, 5, 2000), of(78, -1, 0, -3), of(1, 0, 1, 2000)}

func of(id, rank, left, passed int) aging.Req {
	return aging.Req{ID: id, Rank: rank, Left: left, Passed: passed}
}

func line(limit int, l ...aging.Req) aging.Queue { return aging.Queue{Limit: limit, List: l} }

// many are right requests, all of them unlike each other.
func many(n int) []aging.Req {
	var l []aging.Req
	for i := range n {
		l = append(l, of(2*i+1, i*3%8, 5+i, i*7%90))
	}
	return l
}

// put is a copy of a list with another request at a place.
func put(l []aging.Req, i int, r aging.Req) []aging.Req {
	l = slices.Clone(l)
	l[i] = r
	return l
}

// less is a copy of a list without what stands at a place.
func less(l []aging.Req, i int) []aging.Req {
	return append(slices.Clone(l[:i]), l[i+1:]...)
}

// eachID are copies of a request, one for each of these numbers, which is its ID; likewise those below.
func eachID(r aging.Req, numbers []int) (l []aging.Req) {
	for _, n := range numbers {
		l = append(l, of(n, r.Rank, r.Left, r.Passed))
	}
	return l
}

func eachRank(r aging.Req, numbers []int) (l []aging.Req) {
	for _, n := range numbers {
		l = append(l, of(r.ID, n, r.Left, r.Passed))
	}
	return l
}

func eachLeft(r aging.Req, numbers []int) (l []aging.Req) {
	for _, n := range numbers {
		l = append(l, of(r.ID, r.Rank, n, r.Passed))
	}
	return l
}

func eachPassed(r aging.Req, numbers []int) (l []aging.Req) {
	for _, n := range numbers {
		l = append(l, of(r.ID, r.Rank, r.Left, n))
	}
	return l
}

// wrong are copies of a request with one number out of its bounds.
func wrong(r aging.Req) []aging.Req {
	return slices.Concat(eachID(r, wrongIDs), eachRank(r, wrongRanks), eachLeft(r, wrongLefts), eachPassed(r, wrongPassed))
}

// right are copies of a request with one number at its bounds, or between them.
func right(r aging.Req) []aging.Req {
	return slices.Concat(eachID(r, rightIDs), eachRank(r, rightRanks), eachLeft(r, rightLefts), eachPassed(r, rightPassed))
}

// refused is a queue that may not be, and its error.
type refused struct {
	q aging.Queue
	e api.Errno
}

func refusals() []refused {
	var l []refused
	for _, limit := range wrongLimits {
		l = append(l, refused{line(limit), 8}, refused{line(limit, many(1)...), 8}, refused{line(limit, many(5)...), 8})
	}
	for _, n := range []int{17, 18, 32, 100} {
		l = append(l, refused{line(5, many(n)...), 7})
	}
	for _, n := range []int{1, 3, 16} {
		for _, i := range []int{0, n / 2, n - 1} {
			for _, r := range wrong(many(n)[i]) {
				l = append(l, refused{line(5, put(many(n), i, r)...), 8})
			}
		}
	}
	for _, two := range [][2]int{{0, 1}, {1, 2}, {6, 7}, {0, 7}} {
		twice := many(8)
		twice[two[1]].ID = twice[two[0]].ID
		l = append(l, refused{line(5, twice...), 12})
	}
	return append(l, refused{aging.Queue{}, 8}, refused{line(1, of(3, 0, 1, 0), of(3, 0, 1, 0)), 12})
}

func show(q aging.Queue) string {
	return "{" + strconv.Itoa(q.Limit) + ":" + showList(q.List) + "}"
}

func showList(l []aging.Req) string {
	var b strings.Builder
	for i, r := range l {
		if i == 20 {
			return b.String() + " of " + strconv.Itoa(len(l))
		}
		b.WriteString(" " + showReq(r))
	}
	return b.String()
}

func showReq(r aging.Req) string {
	return "(" + strconv.Itoa(r.ID) + " " + strconv.Itoa(r.Rank) + " " + strconv.Itoa(r.Left) + " " + strconv.Itoa(r.Passed) + ")"
}

// alike asks without Same.
func alike(a, b aging.Queue) bool {
	if a.Limit != b.Limit || len(a.List) != len(b.List) {
		return false
	}
	for i, r := range a.List {
		if r != b.List[i] {
			return false
		}
	}
	return true
}

func modelCheck(q aging.Queue) api.Errno {
	met := map[int]int{}
	outside := func(n, least, most int) bool { return n < least || n > most }
	if outside(q.Limit, 1, 1000) {
		return 8
	}
	if len(q.List) > 16 {
		return 7
	}
	for _, r := range q.List {
		if outside(r.ID, 1, mostStream) || outside(r.Rank, 0, 7) || outside(r.Left, 1, mostWork) || outside(r.Passed, 0, 2000) {
			return 8
		}
		met[r.ID]++
	}
	if len(met) < len(q.List) {
		return 12
	}
	return 0
}

func modelPlace(q aging.Queue, id int) int {
	for i, r := range q.List {
		if r.ID == id {
			return i
		}
	}
	return -1
}

func modelPush(q aging.Queue, id, rank, cost int) (aging.Queue, api.Errno) {
	e := modelCheck(q)
	if e == 0 {
		e = modelCheck(line(1, of(id, rank, cost, 0)))
	}
	if e == 0 && modelPlace(q, id) >= 0 {
		e = 12
	}
	if e == 0 && len(q.List) > 15 {
		e = 7
	}
	if e != 0 {
		return q, e
	}
	return line(q.Limit, append(slices.Clone(q.List), of(id, rank, cost, 0))...), 0
}

func modelDrop(q aging.Queue, id int) (aging.Queue, bool) {
	i := modelPlace(q, id)
	if modelCheck(q) != 0 || i < 0 {
		return q, false
	}
	return line(q.Limit, less(q.List, i)...), true
}

// modelNext asks of each place whether it is the one.
func modelNext(q aging.Queue) int {
	if modelCheck(q) != 0 {
		return -1
	}
	old := func(r aging.Req) bool { return r.Passed >= q.Limit }
	anyOld := slices.ContainsFunc(q.List, old)
	for i, r := range q.List {
		switch {
		case anyOld && old(r):
			return i
		case anyOld:
		case slices.ContainsFunc(q.List[:i], func(x aging.Req) bool { return x.Rank <= r.Rank }):
		case slices.ContainsFunc(q.List[i:], func(x aging.Req) bool { return x.Rank < r.Rank }):
		default:
			return i
		}
	}
	return -1
}

// modelServe does the work unit by unit, where it is not too much for that.
func modelServe(q aging.Queue, quantum int) (aging.Queue, aging.Req, int) {
	i := modelNext(q)
	if i < 0 || quantum <= 0 {
		return q, aging.Req{}, 0
	}
	var l []aging.Req
	for _, r := range q.List[:i] {
		l = append(l, of(r.ID, r.Rank, r.Left, min(r.Passed+1, 2000)))
	}
	r, units := q.List[i], 0
	if r.Left > 5000 {
		units = min(r.Left, quantum) - 1
		r.Left -= units
	}
	for units < quantum && r.Left > 0 {
		units, r.Left = units+1, r.Left-1
	}
	if r.Left > 0 {
		l = append(l, r)
	}
	return line(q.Limit, append(l, q.List[i+1:]...)...), r, units
}

func modelLeft(q aging.Queue) int {
	n := 0
	for _, r := range q.List {
		n += r.Left
	}
	if modelCheck(q) != 0 {
		return 0
	}
	return n
}

// roomy is a copy of a queue with something behind its list.
func roomy(q aging.Queue) aging.Queue {
	return aging.Queue{Limit: q.Limit, List: append(slices.Clone(q.List), behind...)[:len(q.List)]}
}

// wantStill wants a roomy copy of q, with its room, to be as it was.
func wantStill(t *testing.T, given, q aging.Queue) {
	t.Helper()
	if !alike(given, q) || !slices.Equal(given.List[:len(q.List)+len(behind)][len(q.List):], behind) {
		t.Errorf("what came in was changed: %s, not %s", show(given), show(q))
	}
}

// wipe writes over a list and the room behind it.
func wipe(l []aging.Req) {
	l = l[:cap(l)]
	for i := range l {
		l[i] = of(-5, -5, -5, -5)
	}
}

// wantOwn wants that what a call answered lies in memory of its own, and what came in is as it was.
func wantOwn(t *testing.T, given, q, now aging.Queue, asItWas bool) {
	t.Helper()
	if !asItWas {
		wipe(now.List)
	}
	wantStill(t, given, q)
}

func wantCheck(t *testing.T, q aging.Queue, want api.Errno) {
	t.Helper()
	given := roomy(q)
	if e := aging.Check(given); e != want || modelCheck(q) != want {
		t.Errorf("Check(%s) = %d, want %d", show(q), e, want)
	}
	wantStill(t, given, q)
}

func wantLeft(t *testing.T, q aging.Queue, want int) {
	t.Helper()
	given := roomy(q)
	if n := aging.Left(given); n != want {
		t.Errorf("Left(%s) = %d, want %d", show(q), n, want)
	}
	wantStill(t, given, q)
}

// wantSame asks both ways round, and of each one and itself.
func wantSame(t *testing.T, a, b aging.Queue, want bool) {
	t.Helper()
	x, y := roomy(a), roomy(b)
	there, back := aging.Same(x, y), aging.Same(y, x)
	if there != want || back != want {
		t.Errorf("Same(%s, %s) = %t, and round about %t, want %t", show(a), show(b), there, back, want)
	}
	if !aging.Same(x, a) || !aging.Same(y, b) || !aging.Same(x, x) {
		t.Errorf("%s, %s: one is not the same as itself", show(a), show(b))
	}
	wantStill(t, x, a)
	wantStill(t, y, b)
}

func wantPush(t *testing.T, q aging.Queue, r aging.Req, want aging.Queue, wantE api.Errno) aging.Queue {
	t.Helper()
	given := roomy(q)
	now, e := aging.Push(given, r.ID, r.Rank, r.Left)
	if !alike(now, want) || e != wantE {
		t.Errorf("Push(%s, %d, %d, %d) = %s, %d, want %s, %d", show(q), r.ID, r.Rank, r.Left, show(now), e, show(want), wantE)
	}
	wantOwn(t, given, q, now, wantE != 0)
	return want
}

// wantPushed wants it to stand behind the others.
func wantPushed(t *testing.T, q aging.Queue, r aging.Req) aging.Queue {
	t.Helper()
	return wantPush(t, q, r, line(q.Limit, append(slices.Clone(q.List), of(r.ID, r.Rank, r.Left, 0))...), 0)
}

func wantNotPushed(t *testing.T, q aging.Queue, r aging.Req, want api.Errno) {
	t.Helper()
	wantPush(t, q, r, q, want)
}

func wantDrop(t *testing.T, q aging.Queue, id int, want aging.Queue, wantIs bool) {
	t.Helper()
	given := roomy(q)
	now, is := aging.Drop(given, id)
	if !alike(now, want) || is != wantIs {
		t.Errorf("Drop(%s, %d) = %s, %t, want %s, %t", show(q), id, show(now), is, show(want), wantIs)
	}
	wantOwn(t, given, q, now, !wantIs)
}

func wantNext(t *testing.T, q aging.Queue, want int) {
	t.Helper()
	given := roomy(q)
	if i := aging.Next(given); i != want || modelNext(q) != want {
		t.Errorf("Next(%s) = %d, want %d", show(q), i, want)
	}
	wantStill(t, given, q)
}

func wantServe(t *testing.T, q aging.Queue, quantum int, want aging.Queue, wantR aging.Req, wantN int) aging.Queue {
	t.Helper()
	given := roomy(q)
	now, r, n := aging.Serve(given, quantum)
	if !alike(now, want) || r != wantR || n != wantN {
		t.Errorf("Serve(%s, %d) = %s, %s, %d, want %s, %s, %d", show(q), quantum, show(now), showReq(r), n, show(want), showReq(wantR), wantN)
	}
	wantOwn(t, given, q, now, wantN == 0)
	return want
}

func wantNotServed(t *testing.T, q aging.Queue, quantum int) {
	t.Helper()
	wantServe(t, q, quantum, q, aging.Req{}, 0)
}

// wantAll holds each call of a queue against the models.
func wantAll(t *testing.T, q aging.Queue, quanta []int) {
	t.Helper()
	wantCheck(t, q, modelCheck(q))
	wantLeft(t, q, modelLeft(q))
	wantNext(t, q, modelNext(q))
	for _, quantum := range quanta {
		now, r, n := modelServe(q, quantum)
		wantServe(t, q, quantum, now, r, n)
	}
	for _, r := range append(slices.Clone(q.List), of(4444, 0, 0, 0)) {
		now, is := modelDrop(q, r.ID)
		wantDrop(t, q, r.ID, now, is)
		for _, cost := range []int{0, 3} {
			now, e := modelPush(q, r.ID, 4, cost)
			wantPush(t, q, of(r.ID, 4, cost, 0), now, e)
		}
	}
}

// eachList gives all lists of up to n of these numbers.
func eachList(n int, numbers []int, yield func(l []int)) {
	var longer func(l []int)
	longer = func(l []int) {
		yield(l)
		if len(l) == n {
			return
		}
		for _, x := range numbers {
			longer(append(slices.Clone(l), x))
		}
	}
	longer(nil)
}

func TestP26_1New(t *testing.T) {
	for limit := -50; limit <= 1100; limit++ {
		want, wantE := aging.Queue{}, api.ErrRange
		if limit >= 1 && limit <= 1000 {
			want, wantE = line(limit), api.OK
		}
		if q, e := aging.New(limit); !alike(q, want) || e != wantE {
			t.Errorf("New(%d) = %s, %d, want %s, %d", limit, show(q), e, show(want), wantE)
		}
	}
	for _, limit := range wrongLimits {
		if q, e := aging.New(limit); !alike(q, aging.Queue{}) || e != 8 {
			t.Errorf("New(%d) = %s, %d, want none, 8", limit, show(q), e)
		}
	}
}

func TestP26_1CheckOfLimit(t *testing.T) {
	for _, n := range []int{0, 1, 2, 15, 16} {
		for _, limit := range rightLimits {
			wantCheck(t, line(limit, many(n)...), 0)
		}
		for _, limit := range wrongLimits {
			wantCheck(t, line(limit, many(n)...), 8)
		}
		for limit := 1; limit <= 1000; limit++ {
			wantCheck(t, line(limit, many(n)...), 0)
		}
	}
	wantCheck(t, aging.Queue{}, 8)
	wantCheck(t, aging.Queue{Limit: 1, List: []aging.Req{}}, 0)
}

func TestP26_1CheckOfHowMany(t *testing.T) {
	for n := range 17 {
		wantCheck(t, line(9, many(n)...), 0)
	}
	for n := 17; n <= 40; n++ {
		wantCheck(t, line(9, many(n)...), 7)
	}
	wantCheck(t, line(9, many(100000)...), 7)
}

func TestP26_1CheckOfEachNumber(t *testing.T) {
	for _, n := range []int{1, 2, 3, 5, 16} {
		for i := range n {
			l := many(n)
			l[i].ID = 500 // which no other one has
			for _, r := range right(l[i]) {
				want := api.OK
				if modelPlace(line(1, less(l, i)...), r.ID) >= 0 {
					want = api.ErrThere
				}
				wantCheck(t, line(5, put(l, i, r)...), want)
			}
			for _, r := range wrong(l[i]) {
				wantCheck(t, line(5, put(l, i, r)...), 8)
			}
		}
	}
	wantCheck(t, line(1, of(1, 0, 1, 0)), 0)
	wantCheck(t, line(1000, of(mostStream, 7, mostWork, 2000)), 0)
	wantCheck(t, line(1, aging.Req{}), 8)
	inside := map[bool]api.Errno{false: 8, true: 0}
	for n := -20; n <= 20; n++ {
		wantCheck(t, line(1, of(n, 0, 1, 0)), inside[n >= 1])
		wantCheck(t, line(1, of(1, n, 1, 0)), inside[n >= 0 && n <= 7])
		wantCheck(t, line(1, of(1, 0, n, 0)), inside[n >= 1])
		wantCheck(t, line(1, of(1, 0, 1, n)), inside[n >= 0])
	}
}

func TestP26_1CheckOfAllNumbersTogether(t *testing.T) {
	for _, limit := range []int{math.MinInt, 0, 1, 1000, 1001} {
		for _, id := range slices.Concat(rightIDs, wrongIDs) {
			for _, rank := range slices.Concat(rightRanks, wrongRanks) {
				for _, left := range slices.Concat(rightLefts, wrongLefts) {
					for _, passed := range slices.Concat(rightPassed, wrongPassed) {
						q := line(limit, of(2, 2, 2, 2), of(id, rank, left, passed))
						wantCheck(t, q, modelCheck(q))
					}
				}
			}
		}
	}
}

func TestP26_1CheckOfOneIDTwice(t *testing.T) {
	for n := 2; n <= 16; n++ {
		for i := range n {
			for j := range i {
				l := many(n)
				l[i].ID = l[j].ID // all else of them is unlike
				wantCheck(t, line(5, l...), 12)
				l[i] = l[j]
				wantCheck(t, line(5, l...), 12)
				for _, id := range []int{1000, mostStream} {
					l[i].ID, l[j].ID = id, id
					wantCheck(t, line(5, l...), 12)
				}
			}
		}
		wantCheck(t, line(5, slices.Repeat([]aging.Req{of(1, 0, 1, 0)}, n)...), 12)
	}
}

// Unlike requests may have the same Rank, Left and Passed.
func TestP26_1CheckOfIDsAlone(t *testing.T) {
	for n := 1; n <= 16; n++ {
		var l []aging.Req
		for i := range n {
			l = append(l, of(n-i, 3, 3, 3))
		}
		wantCheck(t, line(5, l...), 0)
	}
}

// Each set of the four faults is told by the one that goes ahead of the others, wherever it stands.
func TestP26_1CheckOrder(t *testing.T) {
	for set := range 16 {
		for _, n := range []int{2, 5, 16} {
			for i := range n {
				q := line(5, many(n)...)
				if set&1 != 0 {
					q.Limit = 1001 - 1001*(i%2)
				}
				if set&2 != 0 {
					q.List = many(n + 17)
				}
				if set&8 != 0 {
					q.List[(i+1)%n].ID = q.List[i].ID
				}
				if set&4 != 0 {
					q.List[i].Left = 0
				}
				wantCheck(t, q, []api.Errno{0, 8, 7, 8, 8, 8, 7, 8, 12, 8, 7, 8, 8, 8, 7, 8}[set])
			}
		}
	}
	wantCheck(t, line(0, many(17)...), 8)
	wantCheck(t, line(1, make([]aging.Req, 17)...), 7)
	wantCheck(t, line(1, make([]aging.Req, 16)...), 8)                                // out of bounds, and one ID sixteen times
	wantCheck(t, line(1, of(1, 0, 1, 0), of(1, 0, 1, 0), of(2, 8, 1, 0)), 8)          // what is out of bounds stands behind
	wantCheck(t, line(1, of(2, 0, 1, 2001), of(1, 0, 1, 0), of(1, 0, 1, 0)), 8)       // .. or ahead
	wantCheck(t, line(1, of(1, 0, 1, 0), of(1, 0, mostWork+1, 0), of(3, 0, 1, 0)), 8) // .. or is one of both
}

func TestP26_1Left(t *testing.T) {
	for _, limit := range rightLimits {
		wantLeft(t, line(limit), 0)
		wantLeft(t, aging.Queue{Limit: limit, List: []aging.Req{}}, 0)
		for _, n := range rightLefts {
			wantLeft(t, line(limit, of(1, 7, n, 2000)), n)
		}
	}
	wantLeft(t, line(2, of(1, 3, 4, 0), of(3, 3, 2, 1), of(5, 1, 9, 2), of(7, 1, 1, 3)), 16) // old ones, too
	for n := range 17 {
		wantLeft(t, line(5, many(n)...), 5*n+n*(n-1)/2)
	}
	var all []aging.Req
	for i := range 16 {
		all = append(all, of(i+1, i%8, mostWork, 2000-i))
		wantLeft(t, line(5, all...), mostWork*(i+1))
	}
	wantLeft(t, line(5, all...), 17592186044416)
	r := rand.New(rand.NewSource(261))
	for range 2000 {
		q := anyQueue(r)
		wantLeft(t, q, modelLeft(q))
	}
}

func TestP26_1LeftOfRefused(t *testing.T) {
	for _, x := range refusals() {
		wantCheck(t, x.q, x.e)
		wantLeft(t, x.q, 0)
	}
}

func TestP26_1Same(t *testing.T) {
	for n := range 17 {
		q := line(5, many(n)...)
		wantSame(t, q, line(5, many(n)...), true)
		for _, limit := range []int{4, 6, 0, -5, 1000, math.MinInt, math.MaxInt} {
			wantSame(t, q, line(limit, many(n)...), false)
		}
		wantSame(t, q, line(5, many(n+1)...), false)
		for i := range n {
			r := q.List[i]
			for _, x := range slices.Concat(right(r), wrong(r)) {
				wantSame(t, q, line(5, put(q.List, i, x)...), x == r)
			}
			wantSame(t, q, line(5, less(q.List, i)...), false)
			wantSame(t, q, line(5, append(slices.Clone(q.List), r)...), false)
			for j := range i { // two changed places
				wantSame(t, q, line(5, put(put(q.List, i, q.List[j]), j, r)...), false)
			}
		}
	}
}

func TestP26_1SameOfNone(t *testing.T) {
	for _, limit := range []int{1, 1000, 0, -1, math.MinInt, math.MaxInt} {
		none, empty := aging.Queue{Limit: limit}, aging.Queue{Limit: limit, List: []aging.Req{}}
		wantSame(t, none, empty, true)
		if !aging.Same(none, empty) || !aging.Same(empty, none) || !aging.Same(none, none) {
			t.Errorf("limit %d: none and an empty list are not the same", limit)
		}
		wantSame(t, none, line(limit, many(1)...), false)
		wantSame(t, none, line(limit, aging.Req{}), false)
		wantSame(t, empty, line(limit+1), false)
	}
	made, _ := aging.New(7)
	wantSame(t, made, line(7), true)
}

func TestP26_1SameOfRefused(t *testing.T) {
	l := refusals()
	for i, x := range l {
		wantSame(t, x.q, roomy(x.q), true)
		wantSame(t, x.q, line(x.q.Limit, append(slices.Clone(x.q.List), of(1, 1, 1, 1))...), false)
		y := l[(i+1)%len(l)]
		wantSame(t, x.q, y.q, alike(x.q, y.q))
	}
}

func TestP26_2PushBehindTheOthers(t *testing.T) {
	for _, limit := range rightLimits {
		for n := range 16 {
			for _, r := range []aging.Req{of(500, 0, 1, 0), of(2, 7, 3, 0), of(mostStream, 3, mostWork, 0)} {
				q := wantPushed(t, line(limit, many(n)...), r)
				wantCheck(t, q, 0)
				if last := q.List[n]; last.Passed != 0 {
					t.Errorf("%s: passed ahead of its coming", show(q))
				}
			}
		}
	}
	wantPushed(t, aging.Queue{Limit: 3, List: []aging.Req{}}, of(9, 4, 2, 0))
	wantPushed(t, line(3, of(1, 0, 1, 2000), of(2, 7, mostWork, 3)), of(3, 7, 1, 0))
}

func TestP26_2PushUpToSixteen(t *testing.T) {
	for _, first := range []int{1, 1000, mostStream - 15} {
		q, e := aging.New(4)
		if e != api.OK {
			t.Fatal(int(e))
		}
		for i := range 16 {
			q = wantPushed(t, q, of(first+15-i, i%8, i+1, 0)) // no order is asked of the IDs
		}
		wantNotPushed(t, q, of(77, 0, 1, 0), 7)
		wantNotPushed(t, q, of(78, 7, mostWork, 0), 7)
		for i := range 16 { // there is room, once one is gone
			now, is := aging.Drop(q, first+i)
			if !is {
				t.Fatalf("%s: Drop(%d)", show(q), first+i)
			}
			now = wantPushed(t, now, of(first+i, 3, 3, 0))
			wantNotPushed(t, now, of(77, 0, 1, 0), 7)
		}
	}
}

func TestP26_2PushAtItsBounds(t *testing.T) {
	for _, n := range []int{0, 1, 3, 15} {
		q := line(5, many(n)...)
		for i := range q.List {
			q.List[i].ID += 3000
		}
		for _, id := range rightIDs {
			wantPushed(t, q, of(id, 2, 3, 0))
		}
		for _, rank := range rightRanks {
			wantPushed(t, q, of(4, rank, 3, 0))
		}
		for _, cost := range rightLefts {
			wantPushed(t, q, of(4, 2, cost, 0))
		}
		for _, r := range slices.Concat(eachID(of(4, 2, 3, 0), wrongIDs), eachRank(of(4, 2, 3, 0), wrongRanks), eachLeft(of(4, 2, 3, 0), wrongLefts)) {
			wantNotPushed(t, q, r, 8)
		}
	}
}

func TestP26_2PushOfAllNumbersTogether(t *testing.T) {
	for _, q := range []aging.Queue{line(5), line(5, of(3, 1, 1, 1)), line(5, many(16)...), line(0), line(5, of(1, 1, 1, 0), of(1, 1, 1, 0))} {
		for _, id := range slices.Concat(rightIDs, wrongIDs) {
			for _, rank := range slices.Concat(rightRanks, wrongRanks) {
				for _, cost := range slices.Concat(rightLefts, wrongLefts) {
					now, e := modelPush(q, id, rank, cost)
					wantPush(t, q, of(id, rank, cost, 0), now, e)
				}
			}
		}
	}
}

func TestP26_2PushOfOneThatIsThere(t *testing.T) {
	for n := 1; n <= 16; n++ {
		q := line(5, many(n)...)
		for _, r := range q.List {
			wantNotPushed(t, q, r, 12)
			wantNotPushed(t, q, of(r.ID, 0, mostWork, 0), 12)
			wantNotPushed(t, q, of(r.ID, 7, 1, 0), 12)
		}
	}
}

// Range goes ahead of what is there, and that ahead of no room.
func TestP26_2PushOrder(t *testing.T) {
	for _, n := range []int{1, 5, 15, 16} {
		q := line(5, many(n)...)
		for _, there := range q.List {
			for _, r := range slices.Concat(eachRank(there, wrongRanks), eachLeft(there, wrongLefts)) {
				wantNotPushed(t, q, r, 8)
			}
			wantNotPushed(t, q, there, 12)
		}
		for _, r := range slices.Concat(eachID(of(500, 2, 3, 0), wrongIDs), eachRank(of(500, 2, 3, 0), wrongRanks), eachLeft(of(500, 2, 3, 0), wrongLefts)) {
			wantNotPushed(t, q, r, 8)
		}
		if n == 16 {
			wantNotPushed(t, q, of(500, 2, 3, 0), 7)
		}
	}
}

func TestP26_2PushOfRefused(t *testing.T) {
	for _, x := range refusals() {
		for _, r := range []aging.Req{of(500, 2, 3, 0), of(1, 2, 3, 0), of(0, 2, 3, 0), of(500, 8, 3, 0), of(500, 2, 0, 0), of(math.MinInt, math.MaxInt, math.MinInt, 0)} {
			wantNotPushed(t, x.q, r, x.e)
		}
	}
}

func TestP26_2Drop(t *testing.T) {
	for n := range 17 {
		for _, limit := range []int{1, 5, 1000} { // old ones, and none
			q := line(limit, many(n)...)
			for i, r := range q.List {
				wantDrop(t, q, r.ID, line(limit, less(q.List, i)...), true)
			}
			for _, id := range slices.Concat([]int{2, 4, 500, mostStream, 2*n + 1, 77, 78}, wrongIDs) {
				wantDrop(t, q, id, q, false)
			}
		}
	}
	wantDrop(t, aging.Queue{Limit: 2, List: []aging.Req{}}, 1, line(2), false)
	wantDrop(t, line(2, of(mostStream, 0, mostWork, 2000)), mostStream, line(2), true)
}

func TestP26_2DropTillThereIsNone(t *testing.T) {
	r := rand.New(rand.NewSource(262))
	for range 300 {
		q := anyQueue(r)
		want := q
		for len(want.List) > 0 {
			i := r.Intn(len(want.List))
			id := want.List[i].ID
			want = line(want.Limit, less(want.List, i)...)
			var is bool
			if q, is = aging.Drop(q, id); !is || !alike(q, want) {
				t.Fatalf("Drop(%d): %s, %t, want %s", id, show(q), is, show(want))
			}
			if now, is := aging.Drop(q, id); is || !alike(now, want) {
				t.Fatalf("Drop(%d) again: %s, %t, want %s", id, show(now), is, show(want))
			}
		}
	}
}

func TestP26_2DropOfRefused(t *testing.T) {
	for _, x := range refusals() {
		for _, id := range []int{1, 3, 5, 500, 0, -1, mostStream, math.MaxInt} {
			wantDrop(t, x.q, id, x.q, false)
		}
		for _, r := range x.q.List {
			wantDrop(t, x.q, r.ID, x.q, false)
		}
	}
}

// ranked are requests of these ranks, that were passed so often.
func ranked(passed int, ranks ...int) []aging.Req {
	var l []aging.Req
	for i, rank := range ranks {
		l = append(l, of(100-i, rank, 3+i%4, passed))
	}
	return l
}

func TestP26_3NextByRank(t *testing.T) {
	for _, limit := range rightLimits {
		wantNext(t, line(limit), -1)
		wantNext(t, aging.Queue{Limit: limit, List: []aging.Req{}}, -1)
		for _, passed := range []int{0, limit - 1} {
			for rank := range 8 {
				wantNext(t, line(limit, ranked(passed, rank)...), 0)
				wantNext(t, line(limit, ranked(passed, rank, rank)...), 0)
				wantNext(t, line(limit, ranked(passed, rank, rank, rank)...), 0)
			}
			wantNext(t, line(limit, ranked(passed, 0, 7)...), 0)
			wantNext(t, line(limit, ranked(passed, 7, 0)...), 1)
			wantNext(t, line(limit, ranked(passed, 7, 6, 5)...), 2)
			wantNext(t, line(limit, ranked(passed, 5, 6, 7)...), 0)
			wantNext(t, line(limit, ranked(passed, 6, 5, 7)...), 1)
			wantNext(t, line(limit, ranked(passed, 7, 2, 2, 2, 3)...), 1)
			wantNext(t, line(limit, ranked(passed, 3, 3, 2, 3, 2)...), 2)
			wantNext(t, line(limit, ranked(passed, 1, 0, 1, 0)...), 1)
		}
	}
}

func TestP26_3NextAtEachPlace(t *testing.T) {
	for n := 1; n <= 16; n++ {
		for i := range n {
			ranks := slices.Repeat([]int{6}, n)
			ranks[i] = 5
			wantNext(t, line(3, ranked(2, ranks...)...), i)
			ranks[n-1] = 5
			wantNext(t, line(3, ranked(2, ranks...)...), i)
			ranks[i] = 0
			wantNext(t, line(3, ranked(2, ranks...)...), i)
		}
	}
}

// How much a request needs, its number, and how often it was passed, as long as it isn't old, are nothing.
func TestP26_3NextByRankAlone(t *testing.T) {
	wantNext(t, line(9, of(9, 2, 1, 8), of(5, 1, mostWork, 0), of(1, 1, 1, 8)), 1)
	wantNext(t, line(9, of(1, 2, 1, 8), of(2, 2, 1, 0), of(3, 3, 1, 7)), 0)
	wantNext(t, line(9, of(mostStream, 2, mostWork, 0), of(2, 2, 1, 8), of(1, 2, 1, 8)), 0)
	wantNext(t, line(9, of(5, 2, 5, 3), of(4, 2, 4, 4), of(3, 2, 3, 5)), 0)
}

func TestP26_3NextOfOneOldOne(t *testing.T) {
	for _, limit := range rightLimits {
		for n := 1; n <= 16; n++ {
			for _, i := range []int{0, n / 2, n - 1} {
				ranks := slices.Repeat([]int{1}, n)
				ranks[n-1-i], ranks[i] = 0, 7 // one of a less rank, somewhere
				l := ranked(limit-1, ranks...)
				for _, passed := range []int{limit, limit + 1, 2000} {
					l[i].Passed = passed
					wantNext(t, line(limit, l...), i)
				}
				l[i].Passed = limit - 1
				q := line(limit, l...)
				wantNext(t, q, modelNext(q))
				if n > 1 && i != n-1-i {
					wantNext(t, q, n-1-i)
				}
			}
		}
	}
}

func TestP26_3NextOfSeveralOldOnes(t *testing.T) {
	for n := 2; n <= 16; n++ {
		for i := range n {
			for j := range i {
				l := ranked(4, slices.Repeat([]int{0}, n)...)
				l[i].Passed, l[j].Passed = 2000, 5
				l[i].Rank, l[j].Rank = 0, 7
				wantNext(t, line(5, l...), j) // neither the rank of old ones counts, nor how often they were passed
				l[i].Passed, l[j].Passed = 5, 2000
				wantNext(t, line(5, l...), j)
				l[j].Passed = 4
				wantNext(t, line(5, l...), i)
			}
		}
		wantNext(t, line(5, ranked(5, slices.Repeat([]int{3}, n)...)...), 0)
	}
}

func TestP26_3NextOfOldIsByLimit(t *testing.T) {
	for limit := 1; limit <= 1000; limit++ {
		for _, passed := range []int{0, limit - 1} {
			wantNext(t, line(limit, of(1, 7, 1, passed), of(2, 6, 1, 0)), 1)
		}
		for _, passed := range []int{limit, limit + 1, 1999, 2000} {
			wantNext(t, line(limit, of(1, 7, 1, passed), of(2, 6, 1, 0)), 0)
			wantNext(t, line(limit, of(2, 6, 1, 0), of(1, 7, 1, passed)), 1)
		}
	}
}

func TestP26_3NextOfRefused(t *testing.T) {
	for _, x := range refusals() {
		wantNext(t, x.q, -1)
	}
}

// short gives all queues of up to n requests of these kinds.
func short(limit, n int, kinds []aging.Req, yield func(q aging.Queue)) {
	var numbers []int
	for i := range kinds {
		numbers = append(numbers, i)
	}
	eachList(n, numbers, func(l []int) {
		q := line(limit)
		for i, k := range l {
			r := kinds[k]
			q.List = append(q.List, of(20-i, r.Rank, r.Left, r.Passed))
		}
		yield(q)
	})
}

func TestP26_3NextOfAllShortQueues(t *testing.T) {
	kinds := []aging.Req{of(0, 0, 1, 0), of(0, 0, 1, 3), of(0, 1, 1, 2), of(0, 1, 1, 3), of(0, 7, 1, 0), of(0, 7, 1, 4)}
	short(3, 6, kinds, func(q aging.Queue) {
		if i := aging.Next(q); i != modelNext(q) {
			t.Errorf("Next(%s) = %d, want %d", show(q), i, modelNext(q))
		}
	})
}

func TestP26_4ServeUnits(t *testing.T) {
	for _, n := range []int{1, 2, 3, 10, 1000, mostWork - 1, mostWork} {
		q := line(5, of(9, 3, n, 2))
		for _, quantum := range []int{n, n + 1, 2 * n, mostWork + 1, math.MaxInt - 1, math.MaxInt} { // just as many, and more
			if quantum >= n {
				wantServe(t, q, quantum, line(5), of(9, 3, 0, 2), n)
			}
		}
		for _, quantum := range []int{1, 2, n / 2, n - 1} { // fewer
			if quantum >= 1 && quantum < n {
				wantServe(t, q, quantum, line(5, of(9, 3, n-quantum, 2)), of(9, 3, n-quantum, 2), quantum)
			}
		}
		for _, quantum := range []int{0, -1, -2, -n, -mostWork, math.MinInt, math.MinInt + 1} {
			wantNotServed(t, q, quantum)
		}
	}
}

func TestP26_4ServeFieldByField(t *testing.T) {
	for n := 1; n <= 16; n++ {
		for i := range n {
			l := many(n) // of which none is old by now
			for j := range l {
				l[j].Rank = max(1, l[j].Rank)
			}
			l[i].Rank = 0
			want := slices.Clone(l)
			for j := range i {
				want[j].Passed++
			}
			for quantum := 1; quantum < l[i].Left; quantum++ {
				want[i].Left = l[i].Left - quantum
				wantServe(t, line(100, l...), quantum, line(100, want...), want[i], quantum)
			}
			want[i].Left = 0
			for _, quantum := range []int{l[i].Left, l[i].Left + 1, math.MaxInt} {
				wantServe(t, line(100, l...), quantum, line(100, less(want, i)...), want[i], l[i].Left)
			}
		}
	}
}

func TestP26_4ServeOfAnOldOne(t *testing.T) {
	for n := 1; n <= 16; n++ {
		for i := range n {
			for _, passed := range []int{5, 6, 1999, 2000} {
				l := ranked(4, slices.Repeat([]int{0}, n)...)
				l[i] = of(l[i].ID, 7, 3, passed)
				want := slices.Clone(l)
				for j := range i {
					want[j].Passed = 5
				}
				want[i].Left = 1
				now := wantServe(t, line(5, l...), 2, line(5, want...), want[i], 2)
				wantNext(t, now, 0) // now those ahead are old, too
				want[i].Left = 0
				wantServe(t, line(5, l...), 3, line(5, less(want, i)...), want[i], 3)
			}
		}
	}
}

// Who was passed 1999 or 2000 times is old, so it is served or stands behind, and is never passed once more; who isn't comes up to Limit.
func TestP26_4ServeAtTheMostPassed(t *testing.T) {
	for _, limit := range []int{1, 2, 999, 1000} {
		for _, one := range []int{1999, 2000} {
			for _, other := range []int{1999, 2000} {
				q := line(limit, of(1, 7, 3, one), of(2, 0, 3, other), of(3, 0, 3, limit-1))
				wantServe(t, q, 1, line(limit, of(1, 7, 2, one), of(2, 0, 3, other), of(3, 0, 3, limit-1)), of(1, 7, 2, one), 1)
				wantServe(t, q, 9, line(limit, of(2, 0, 3, other), of(3, 0, 3, limit-1)), of(1, 7, 0, one), 3)
				q = line(limit, of(3, 0, 3, limit-1), of(4, 0, 3, 0), of(1, 7, 3, one), of(2, 0, 3, other))
				wantServe(t, q, 1, line(limit, of(3, 0, 3, limit), of(4, 0, 3, 1), of(1, 7, 2, one), of(2, 0, 3, other)), of(1, 7, 2, one), 1)
			}
		}
		for _, passed := range []int{0, limit - 1} {
			q := line(limit, of(1, 7, 3, passed), of(2, 0, 3, 0))
			wantServe(t, q, 1, line(limit, of(1, 7, 3, passed+1), of(2, 0, 2, 0)), of(2, 0, 2, 0), 1)
		}
	}
}

func TestP26_4ServeOfNone(t *testing.T) {
	for _, limit := range rightLimits {
		for _, quantum := range []int{1, 2, 1000, mostWork, math.MaxInt, 0, -1, math.MinInt} {
			wantNotServed(t, line(limit), quantum)
			wantNotServed(t, aging.Queue{Limit: limit, List: []aging.Req{}}, quantum)
		}
		for _, quantum := range []int{0, -1, -2, -1000, math.MinInt} {
			for n := range 17 {
				wantNotServed(t, line(limit, many(n)...), quantum)
			}
		}
	}
}

func TestP26_4ServeOfRefused(t *testing.T) {
	for _, x := range refusals() {
		for _, quantum := range []int{1, 2, 1000, math.MaxInt, 0, -1, math.MinInt} {
			wantNotServed(t, x.q, quantum)
		}
	}
}

func TestP26_4ServeOfAllShortQueues(t *testing.T) {
	kinds := []aging.Req{of(0, 0, 1, 0), of(0, 0, 3, 2), of(0, 1, 2, 1), of(0, 1, 1, 3), of(0, 7, 2, 2), of(0, 7, mostWork, 1999), of(0, 3, 2, 2001)}
	for _, limit := range []int{1, 2, 3} {
		short(limit, 4, kinds, func(q aging.Queue) { wantAll(t, q, []int{0, 1, 2, 3}) })
	}
}

// anyQueue is one by chance, that may be.
func anyQueue(r *rand.Rand) aging.Queue {
	q := line([]int{1, 2, 5, 1000}[r.Intn(4)])
	first, most := 1+r.Intn(mostStream-20), []int{3, 100, mostWork}[r.Intn(3)]
	for i := range r.Intn(17) {
		passed := r.Intn(q.Limit)
		if r.Intn(12) == 0 {
			passed = r.Intn(2001)
		}
		q.List = append(q.List, of(first+i*7%17, r.Intn(8), 1+r.Intn(most), passed))
	}
	return q
}

func TestP26_4ByChance(t *testing.T) {
	r := rand.New(rand.NewSource(264))
	for range 20000 {
		q := anyQueue(r)
		if r.Intn(5) == 0 && len(q.List) > 0 {
			bad := wrong(q.List[0])
			q.List[r.Intn(len(q.List))] = bad[r.Intn(len(bad))]
		}
		wantAll(t, q, []int{1, 2 + r.Intn(100), r.Intn(2 * mostWork), mostWork})
		id, rank, cost := 1+r.Intn(20), r.Intn(9), r.Intn(4)
		now, e := modelPush(q, id, rank, cost)
		wantPush(t, q, of(id, rank, cost, 0), now, e)
	}
}

// What is served of a right queue is a right one.
func TestP26_4ServedIsRight(t *testing.T) {
	r := rand.New(rand.NewSource(2640))
	for range 5000 {
		q := anyQueue(r)
		for n := 1; n > 0; {
			left := aging.Left(q)
			q, _, n = aging.Serve(q, 1+r.Intn(mostWork))
			if aging.Check(q) != api.OK || aging.Left(q) != left-n {
				t.Fatalf("%s: served %d of %d", show(q), n, left)
			}
		}
		if len(q.List) > 0 {
			t.Fatalf("%s: nobody is served", show(q))
		}
	}
}

// waiter is what somebody who looks on knows of a request, by what he saw alone.
type waiter struct {
	id, rank, cost int
	done           int // units
	passed         int // services of later ones
	seen           int // services in all, since it came
	bound          int // and how many of them there are at most till it is gone
}

// watch is a queue, and those who wait in it, in the order in which they came.
type watch struct {
	q     aging.Queue
	least int // units that a service does, where there are as many
	l     []waiter
	gone  int
	most  int // times that somebody was passed
}

func newWatch(t *testing.T, limit, least int) *watch {
	t.Helper()
	q, e := aging.New(limit)
	if e != api.OK {
		t.Fatalf("New(%d): %d", limit, e)
	}
	return &watch{q: q, least: least}
}

// services is how many services so many units need at most.
func (w *watch) services(units int) int { return (units + w.least - 1) / w.least }

func (w *watch) place(id int) int {
	return slices.IndexFunc(w.l, func(x waiter) bool { return x.id == id })
}

func (w *watch) push(t *testing.T, id, rank, cost int) {
	t.Helper()
	q, e := aging.Push(w.q, id, rank, cost)
	switch {
	case w.place(id) >= 0 && e == api.ErrThere && alike(q, w.q):
		return
	case w.place(id) < 0 && len(w.l) == 16 && e == api.ErrFull && alike(q, w.q):
		return
	case w.place(id) >= 0 || len(w.l) == 16 || e != api.OK:
		t.Fatalf("Push(%s, %d, %d, %d): %s, %d", show(w.q), id, rank, cost, show(q), e)
	}
	bound := w.services(cost) + w.q.Limit
	for _, x := range w.l {
		bound += w.services(x.cost - x.done)
	}
	w.q, w.l = q, append(w.l, waiter{id: id, rank: rank, cost: cost, bound: bound})
	w.wantMatch(t)
}

func (w *watch) drop(t *testing.T, id int) {
	t.Helper()
	q, is := aging.Drop(w.q, id)
	i := w.place(id)
	if is != (i >= 0) {
		t.Fatalf("Drop(%s, %d): %s, %t", show(w.q), id, show(q), is)
	}
	if is {
		w.l = slices.Delete(w.l, i, i+1)
	}
	w.q = q
	w.wantMatch(t)
}

// serve wants somebody to be served, if there is one, for just what he needs still, and nobody ahead of him to have been passed as often as may be.
func (w *watch) serve(t *testing.T, quantum int) {
	t.Helper()
	q, r, units := aging.Serve(w.q, quantum)
	if len(w.l) == 0 {
		if units != 0 || r != (aging.Req{}) || !alike(q, w.q) {
			t.Fatalf("Serve(%s, %d) of none: %s, %s, %d", show(w.q), quantum, show(q), showReq(r), units)
		}
		return
	}
	i := w.place(r.ID)
	if i < 0 {
		t.Fatalf("Serve(%s, %d): %s, whom nobody knows", show(w.q), quantum, showReq(r))
	}
	x := &w.l[i]
	x.done += units
	if units != min(quantum, x.cost-x.done+units) || r != of(x.id, x.rank, x.cost-x.done, x.passed) {
		t.Fatalf("Serve(%s, %d): %s, %d", show(w.q), quantum, showReq(r), units)
	}
	for j := range w.l {
		w.l[j].seen++
		if j < i {
			w.l[j].passed++
			w.most = max(w.most, w.l[j].passed)
		}
	}
	if x.done == x.cost {
		if x.seen > x.bound {
			t.Fatalf("%d of %s is gone behind %d services, not %d", x.id, show(w.q), x.seen, x.bound)
		}
		w.gone++
		w.l = slices.Delete(w.l, i, i+1)
	}
	w.q = q
	w.wantMatch(t)
}

// wantMatch wants the queue to be what was seen, with nobody passed too often, and nobody there who should be gone.
func (w *watch) wantMatch(t *testing.T) {
	t.Helper()
	left := 0
	if len(w.q.List) != len(w.l) {
		t.Fatalf("%s: there are %d", show(w.q), len(w.l))
	}
	for i, x := range w.l {
		if w.q.List[i] != of(x.id, x.rank, x.cost-x.done, x.passed) || x.done >= x.cost {
			t.Fatalf("%s, at %d: cost %d, done %d, passed %d", show(w.q), i, x.cost, x.done, x.passed)
		}
		if x.passed > w.q.Limit || x.seen >= x.bound {
			t.Fatalf("%s: %d was passed %d times, behind %d services of at most %d", show(w.q), x.id, x.passed, x.seen, x.bound)
		}
		left += x.cost - x.done
	}
	if aging.Left(w.q) != left || aging.Check(w.q) != api.OK {
		t.Fatalf("%s: %d units are left, not %d", show(w.q), aging.Left(w.q), left)
	}
}

// empty serves till there is nobody.
func (w *watch) empty(t *testing.T, quantum int) {
	t.Helper()
	for len(w.l) > 0 {
		w.serve(t, quantum)
	}
	w.serve(t, quantum)
}

func TestP26_5Examples(t *testing.T) {
	q, _ := aging.New(1)
	q = wantPushed(t, q, of(1, 5, 3, 0))
	q = wantPushed(t, q, of(3, 0, 3, 0))
	q = wantServe(t, q, 1, line(1, of(1, 5, 3, 1), of(3, 0, 2, 0)), of(3, 0, 2, 0), 1)
	q = wantServe(t, q, 1, line(1, of(1, 5, 2, 1), of(3, 0, 2, 0)), of(1, 5, 2, 1), 1)
	q = wantServe(t, q, 1, line(1, of(1, 5, 1, 1), of(3, 0, 2, 0)), of(1, 5, 1, 1), 1)
	q = wantServe(t, q, 1, line(1, of(3, 0, 2, 0)), of(1, 5, 0, 1), 1)
	q = wantServe(t, q, 1, line(1, of(3, 0, 1, 0)), of(3, 0, 1, 0), 1)
	q = wantServe(t, q, 1, line(1), of(3, 0, 0, 0), 1)
	wantNotServed(t, q, 1)
}

// anyPush puts one in by chance: where the ranks fall as it goes on, the first ones are passed the most.
func (w *watch) anyPush(t *testing.T, r *rand.Rand, most int) {
	t.Helper()
	rank := r.Intn(8)
	if r.Intn(2) == 0 {
		rank = 0
	}
	w.push(t, 1+r.Intn(30), rank, 1+r.Intn(most))
}

// mix does some of all by chance, and empties the queue in the end.
func (w *watch) mix(t *testing.T, r *rand.Rand, steps, most, quanta int) {
	t.Helper()
	busy := 2 + r.Intn(4)
	for range steps {
		switch n := r.Intn(10); {
		case n < busy:
			w.anyPush(t, r, most)
		case n == 9 && r.Intn(4) == 0:
			w.drop(t, 1+r.Intn(30))
		default:
			w.serve(t, w.least+r.Intn(quanta))
		}
	}
	w.empty(t, w.least)
}

func TestP26_5UnitByUnit(t *testing.T) {
	r := rand.New(rand.NewSource(265))
	for _, limit := range []int{1, 2, 3, 4, 5, 7, 10, 20, 50, 100, 999, 1000} {
		gone, most := 0, 0
		for range 20 {
			w := newWatch(t, limit, 1)
			w.mix(t, r, 2000, []int{1, 2, 5, 40}[r.Intn(4)], 1)
			gone, most = gone+w.gone, max(most, w.most)
		}
		if gone < 2000 || most < min(limit, 30) {
			t.Errorf("limit %d: %d are gone, and nobody was passed above %d times", limit, gone, most)
		}
	}
}

func TestP26_5OfManyQuanta(t *testing.T) {
	r := rand.New(rand.NewSource(2650))
	for _, limit := range []int{1, 2, 3, 8, 30, 1000} {
		for _, least := range []int{1, 2, 7, 1000} {
			for range 10 {
				w := newWatch(t, limit, least)
				w.mix(t, r, 2000, least*(1+r.Intn(6)), 1+r.Intn(2*least))
				if w.gone == 0 {
					t.Errorf("limit %d: nobody is gone", limit)
				}
			}
		}
	}
}

func TestP26_5OfAllShortRuns(t *testing.T) {
	acts := []func(w *watch, id int){
		func(w *watch, id int) { w.push(t, id, 0, 2) },
		func(w *watch, id int) { w.push(t, id, 1, 1) },
		func(w *watch, id int) { w.push(t, id, 7, 3) },
		func(w *watch, id int) { w.serve(t, 1) },
		func(w *watch, id int) { w.serve(t, 2) },
		func(w *watch, id int) { w.drop(t, max(1, id-2)) },
	}
	for _, limit := range []int{1, 2, 1000} {
		eachList(6, []int{0, 1, 2, 3, 4, 5}, func(l []int) {
			w := newWatch(t, limit, 1)
			for i, n := range l {
				acts[n](w, i+1)
			}
			w.empty(t, 1)
		})
	}
}

// Others come for ever, each ahead of it by rank: just Limit of their services go by, and then just those of the ones ahead.
func TestP26_5TheBoundIsReached(t *testing.T) {
	for limit := 1; limit <= 1000; limit = limit + 1 + limit/20 {
		for _, ahead := range [][]int{nil, {1}, {5}, {3, 4}, {1, 2, 3, 4, 5, 6, 7}} {
			w, units := newWatch(t, limit, 1), 9
			for i, cost := range ahead {
				w.push(t, i+1, 7, cost)
				units += cost
			}
			w.push(t, 99, 7, 9)
			for n := range limit + units {
				if n < limit != (w.q.List[len(ahead)].Passed < limit) && w.place(99) == len(ahead) {
					t.Fatalf("limit %d, behind %d services: %s", limit, n, show(w.q))
				}
				if w.place(99) < 0 {
					t.Fatalf("limit %d: gone behind %d services, not %d", limit, n, limit+units)
				}
				w.push(t, 1000+n%100, n%7, 1+n%3)
				w.serve(t, 1)
			}
			if w.place(99) >= 0 || w.most != limit {
				t.Fatalf("limit %d: %s, the most that one was passed is %d", limit, show(w.q), w.most)
			}
			w.empty(t, 1)
		}
	}
}

// Whatever comes later: what is served to a request, and to all ahead of it, comes by the same services less those that pass it, of which there are Limit at most.
func TestP26_5WhateverComesLater(t *testing.T) {
	r := rand.New(rand.NewSource(2651))
	for range 400 {
		limit, quantum := 1+r.Intn(20), 1+r.Intn(4)
		first := newWatch(t, limit, quantum)
		for range 1 + r.Intn(6) {
			first.anyPush(t, r, 12)
		}
		alone := 0
		for q := first.q; len(q.List) > 0 && alone < 1000; alone++ {
			q, _, _ = aging.Serve(q, quantum)
		}
		for _, many := range []int{1, 3, 16} {
			w := &watch{q: first.q, least: quantum, l: slices.Clone(first.l)}
			last := slices.Clone(w.l)
			n := 0
			for ; slices.ContainsFunc(last, func(x waiter) bool { return w.place(x.id) >= 0 }); n++ {
				for i := range r.Intn(many + 1) {
					w.push(t, 1000+n*20+i, r.Intn(8)*r.Intn(2), 1+r.Intn(9))
				}
				w.serve(t, quantum)
			}
			if n < alone || n > alone+limit {
				t.Fatalf("limit %d, quantum %d: %s is gone behind %d services; alone it was %d", limit, quantum, show(first.q), n, alone)
			}
		}
	}
}

// Of one rank, or where each later one has a greater one, it is as they came, and nobody is ever passed.
func TestP26_5AsTheyCame(t *testing.T) {
	r := rand.New(rand.NewSource(2652))
	for _, limit := range []int{1, 4, 1000} {
		for rank := range 8 {
			w := newWatch(t, limit, 1)
			for n := range 500 {
				w.push(t, 1+n%25, rank, 1+r.Intn(5))
				if ahead := w.l[0].id; r.Intn(3) > 0 {
					w.serve(t, 1+r.Intn(4))
					if w.most > 0 {
						t.Fatalf("%s: %d, which came first, was passed", show(w.q), ahead)
					}
				}
			}
			w.empty(t, 3)
		}
		w := newWatch(t, limit, 1)
		for i := range 16 {
			w.push(t, 50-i, i/2, 1+r.Intn(9))
		}
		w.empty(t, 2)
		if w.most > 0 || w.gone != 16 {
			t.Errorf("%d are gone, somebody was passed %d times", w.gone, w.most)
		}
	}
}

// By ranks alone, as long as nobody is old.
func TestP26_5ByRankTillSomebodyIsOld(t *testing.T) {
	w := newWatch(t, 1000, 1)
	for i := range 16 {
		w.push(t, i+1, 7-i/2, 3)
	}
	for rank := range 8 {
		for _, id := range []int{15 - 2*rank, 16 - 2*rank} {
			for range 3 {
				if i := aging.Next(w.q); w.q.List[i].ID != id {
					t.Fatalf("%s: %d is next, not %d", show(w.q), w.q.List[i].ID, id)
				}
				w.serve(t, 1)
			}
		}
	}
	if len(w.l) > 0 || w.gone != 16 {
		t.Errorf("%s: %d are gone", show(w.q), w.gone)
	}
}

// Costs as great as may be are done to the last unit, each once.
func TestP26_5OfTheGreatestCosts(t *testing.T) {
	r := rand.New(rand.NewSource(2653))
	for _, limit := range []int{1, 3, 1000} {
		w := newWatch(t, limit, mostWork/64)
		for i := range 16 {
			w.push(t, mostStream-i, r.Intn(8), mostWork)
		}
		wantLeft(t, w.q, 16*mostWork)
		w.empty(t, mostWork/64)
		w.push(t, 1, 7, mostWork)
		w.serve(t, math.MaxInt)
		if w.gone != 17 || len(w.l) > 0 {
			t.Errorf("%d are gone", w.gone)
		}
	}
}
