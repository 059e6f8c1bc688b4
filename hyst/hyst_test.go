package hyst_test

import (
	"math"
	"math/rand"
	"slices"
	"strconv"
	"testing"

	"footman/api"
	"footman/hyst"
)

const mostWork = 1099511627776

// far are numbers that no part of a controller may have, to both ends of what an int can tell.
var far = []int{
	math.MinInt, math.MinInt + 1, -1 << 62, -mostWork - 1, -mostWork, -1<<32 - 1, -1 << 32, -1<<32 + 1, -1001, -1000, -17, -16, -2,
	mostWork + 2, mostWork + 1000, 2 * mostWork, 1<<62 + 1, 1 << 62, math.MaxInt - 1, math.MaxInt,
}

func of(limit, least, most, low, high, quiet, calm int) hyst.State {
	return hyst.State{Limit: limit, Least: least, Most: most, Low: low, High: high, Quiet: quiet, Calm: calm}
}

// told is a controller again, whose Limit and Calm are others.
func told(st hyst.State, limit, calm int) hyst.State {
	return of(limit, st.Least, st.Most, st.Low, st.High, st.Quiet, calm)
}

func show(st hyst.State) string {
	s := "{"
	for _, n := range []int{st.Limit, st.Least, st.Most, st.Low, st.High, st.Quiet, st.Calm} {
		s += " " + strconv.Itoa(n)
	}
	return s + " }"
}

func modelCheck(st hyst.State) api.Errno {
	if st.Least < 1 || st.Least > st.Most || st.Most > 16 {
		return 8
	}
	if st.Limit < st.Least || st.Limit > st.Most {
		return 8
	}
	if st.Low < 0 || st.Low > st.High || st.High > mostWork {
		return 8
	}
	if st.Quiet < 1 || st.Quiet > 1000 || st.Calm < 0 || st.Calm >= st.Quiet {
		return 8
	}
	return 0
}

func modelZone(st hyst.State, backlog int) int {
	if backlog > st.High {
		return 1
	}
	if backlog < st.Low {
		return -1
	}
	return 0
}

func modelSee(st hyst.State, backlog int) (hyst.State, bool) {
	if modelCheck(st) != 0 {
		return st, false
	}
	zone := modelZone(st, backlog)
	if zone == 0 {
		return told(st, st.Limit, 0), false
	}
	if zone == -1 && st.Calm+1 < st.Quiet {
		return told(st, st.Limit, st.Calm+1), false
	}
	limit := st.Limit + 1
	if zone == 1 {
		limit = st.Limit >> 1
	}
	limit = slices.Min([]int{slices.Max([]int{limit, st.Least}), st.Most})
	return told(st, limit, 0), limit != st.Limit
}

func wantCheck(t *testing.T, st hyst.State, want api.Errno) {
	t.Helper()
	if e := hyst.Check(st); e != want {
		t.Errorf("Check(%s) = %d, want %d", show(st), e, want)
	}
}

// wantNew holds that there is such a controller: at Most, and without calm.
func wantNew(t *testing.T, least, most, low, high, quiet int) {
	t.Helper()
	want := hyst.State{Limit: most, Least: least, Most: most, Low: low, High: high, Quiet: quiet, Calm: 0}
	if st, e := hyst.New(least, most, low, high, quiet); st != want || e != 0 {
		t.Errorf("New(%d, %d, %d, %d, %d) = %s, %d, want %s", least, most, low, high, quiet, show(st), e, show(want))
	}
}

// wantNotNew holds that there is no such controller: what is answered is nothing.
func wantNotNew(t *testing.T, least, most, low, high, quiet int) {
	t.Helper()
	if st, e := hyst.New(least, most, low, high, quiet); st != (hyst.State{}) || e != 8 {
		t.Errorf("New(%d, %d, %d, %d, %d) = %s, %d, want nothing, and 8", least, most, low, high, quiet, show(st), e)
	}
}

func wantZone(t *testing.T, st hyst.State, backlog, want int) {
	t.Helper()
	came := st
	for range 2 { // what it answers hangs on nothing else
		if n := hyst.Zone(came, backlog); n != want {
			t.Errorf("Zone(%s, %d) = %d, want %d", show(st), backlog, n, want)
		}
	}
	if came != st {
		t.Errorf("Zone(%s, %d) changed what came in: %s", show(st), backlog, show(came))
	}
}

func wantSeeing(t *testing.T, st hyst.State, backlog int, want hyst.State, wantIs bool) {
	t.Helper()
	came := st
	for range 2 {
		if x, is := hyst.See(came, backlog); x != want || is != wantIs {
			t.Errorf("See(%s, %d) = %s, %t, want %s, %t", show(st), backlog, show(x), is, show(want), wantIs)
		}
	}
	if came != st {
		t.Errorf("See(%s, %d) changed what came in: %s", show(st), backlog, show(came))
	}
}

// wantMoved holds that the Limit is another one behind a look.
func wantMoved(t *testing.T, st hyst.State, backlog, limit, calm int) {
	t.Helper()
	wantSeeing(t, st, backlog, told(st, limit, calm), true)
}

// wantStill holds that the Limit stays at a look, and what Calm is then.
func wantStill(t *testing.T, st hyst.State, backlog, calm int) {
	t.Helper()
	wantSeeing(t, st, backlog, told(st, st.Limit, calm), false)
}

func wantRun(t *testing.T, st hyst.State, l []int, want hyst.State, wantN int) {
	t.Helper()
	came, looks := st, slices.Clone(l)
	for range 2 {
		if x, n := hyst.Run(came, looks); x != want || n != wantN {
			t.Errorf("Run(%s, %v) = %s, %d, want %s, %d", show(st), l, show(x), n, show(want), wantN)
		}
	}
	if came != st || !slices.Equal(looks, l) {
		t.Errorf("Run(%s, %v) changed what came in: %s, %v", show(st), l, show(came), looks)
	}
}

// usual may be, and so it may with any one part of its own between that part's bounds.
var usual = of(8, 4, 12, 5, 20, 10, 3)

// parts sets one part of a controller, and tells its bounds where the others stay as in usual.
var parts = []struct {
	name            string
	set             func(st hyst.State, n int) hyst.State
	least, greatest int
}{
	{"Limit", func(st hyst.State, n int) hyst.State { st.Limit = n; return st }, 4, 12},
	{"Least", func(st hyst.State, n int) hyst.State { st.Least = n; return st }, 1, 8},
	{"Most", func(st hyst.State, n int) hyst.State { st.Most = n; return st }, 8, 16},
	{"Low", func(st hyst.State, n int) hyst.State { st.Low = n; return st }, 0, 20},
	{"High", func(st hyst.State, n int) hyst.State { st.High = n; return st }, 5, mostWork},
	{"Quiet", func(st hyst.State, n int) hyst.State { st.Quiet = n; return st }, 4, 1000},
	{"Calm", func(st hyst.State, n int) hyst.State { st.Calm = n; return st }, 0, 9},
}

// refused are controllers that may not be: by one part alone, or by two; at most of them a look would change something.
func refused() []hyst.State {
	var l []hyst.State
	for _, from := range []hyst.State{usual, of(8, 4, 12, 5, 20, 10, 9), of(4, 1, 16, 5, 20, 4, 3), of(8, 8, 8, 5, 5, 4, 0)} {
		for i, p := range parts {
			for _, n := range append([]int{-1, mostWork + 1}, far...) {
				l = append(l, p.set(from, n))
				for _, q := range parts[i+1:] {
					l = append(l, q.set(p.set(from, n), -1), q.set(p.set(from, n), math.MaxInt), q.set(p.set(from, n), math.MinInt))
				}
			}
		}
	}
	return append(l,
		hyst.State{},
		of(8, 0, 12, 5, 20, 10, 3), of(0, 0, 0, 5, 20, 10, 3), of(0, 0, 12, 5, 20, 10, 3),
		of(8, 4, 17, 5, 20, 10, 3), of(17, 17, 17, 5, 20, 10, 3), of(8, 8, 7, 5, 20, 10, 3),
		of(3, 4, 12, 5, 20, 10, 3), of(13, 4, 12, 5, 20, 10, 3),
		of(8, 4, 12, 21, 20, 10, 3), of(8, 4, 12, -1, 20, 10, 3), of(8, 4, 12, -1, -1, 10, 3),
		of(8, 4, 12, mostWork+1, mostWork+1, 10, 3),
		of(8, 4, 12, 5, 20, 0, 0), of(8, 4, 12, 5, 20, 0, -1), of(8, 4, 12, 5, 20, -1, -2), of(8, 4, 12, 5, 20, 1001, 3), of(8, 4, 12, 5, 20, 1001, 1000),
		of(8, 4, 12, 5, 20, 10, 10), of(8, 4, 12, 5, 20, 10, 11), of(8, 4, 12, 5, 20, 1, 1), of(8, 4, 12, 5, 20, 1000, 1000), of(8, 4, 12, 5, 20, math.MinInt, math.MaxInt-1),
	)
}

// ranges are all pairs of a Least and a Most.
func ranges() [][2]int {
	var l [][2]int
	for most := 1; most <= 16; most++ {
		for least := 1; least <= most; least++ {
			l = append(l, [2]int{least, most})
		}
	}
	return l
}

// lookedAt are numbers about both bounds of what waits, and the far ones.
func lookedAt(low, high int) []int {
	return append([]int{-1, 0, 1, low - 2, low - 1, low, low + 1, low/2 + high/2, high - 1, high, high + 1, high + 2, mostWork - 1, mostWork, mostWork + 1}, far...)
}

// bounds are pairs of a Low and a High, at their own bounds, next to them, and between.
var bounds = [][2]int{{0, 0}, {0, 1}, {1, 1}, {0, 20}, {5, 5}, {5, 6}, {5, 20}, {20, 20}, {0, mostWork}, {1, mostWork}, {mostWork - 1, mostWork}, {mostWork, mostWork}}

func TestP22_1CheckOfEachPartAlone(t *testing.T) {
	wantCheck(t, usual, api.OK)
	for _, p := range parts {
		for _, n := range []int{p.least, p.least + 1, (p.least + p.greatest) / 2, p.greatest - 1, p.greatest} {
			wantCheck(t, p.set(usual, n), api.OK)
		}
		for _, n := range append([]int{p.least - 1, p.least - 2, p.greatest + 1, p.greatest + 2, -1, mostWork + 1}, far...) {
			wantCheck(t, p.set(usual, n), api.ErrRange)
		}
		for n := -5; n <= 1005; n++ {
			if n >= p.least && n <= p.greatest {
				wantCheck(t, p.set(usual, n), api.OK)
			} else {
				wantCheck(t, p.set(usual, n), api.ErrRange)
			}
		}
	}
}

func TestP22_1CheckOfNothing(t *testing.T) {
	wantCheck(t, hyst.State{}, api.ErrRange)
}

func TestP22_1CheckOfALimitAndItsBounds(t *testing.T) {
	right := 0
	for least := -2; least <= 19; least++ {
		for most := -2; most <= 19; most++ {
			for limit := -3; limit <= 20; limit++ {
				want := api.Errno(8)
				if least >= 1 && most <= 16 && limit >= least && limit <= most {
					want, right = 0, right+1
				}
				wantCheck(t, of(limit, least, most, 5, 20, 10, 3), want)
			}
		}
	}
	if right != 816 { // as many as there are ways to take three of 1 to 16, in order
		t.Errorf("%d of them were right", right)
	}
}

func TestP22_1CheckOfLowAndHigh(t *testing.T) {
	for _, b := range bounds {
		for _, quiet := range []int{1, 2, 1000} {
			wantCheck(t, of(3, 1, 16, b[0], b[1], quiet, 0), api.OK)
			wantCheck(t, of(3, 1, 16, b[1]+1, b[1], quiet, 0), api.ErrRange)
			wantCheck(t, of(3, 1, 16, b[0], b[0]-1, quiet, 0), api.ErrRange)
			wantCheck(t, of(3, 1, 16, -1, b[1], quiet, 0), api.ErrRange)
			wantCheck(t, of(3, 1, 16, b[0], mostWork+1, quiet, 0), api.ErrRange)
		}
	}
	wantCheck(t, of(3, 1, 16, math.MinInt, math.MaxInt, 1, 0), api.ErrRange)
	wantCheck(t, of(3, 1, 16, mostWork+1, mostWork+1, 1, 0), api.ErrRange)
	wantCheck(t, of(3, 1, 16, -1, -1, 1, 0), api.ErrRange)
}

func TestP22_1CheckOfQuietAndCalm(t *testing.T) {
	for quiet := 1; quiet <= 1000; quiet++ {
		wantCheck(t, of(8, 4, 12, 5, 20, quiet, 0), api.OK)
		wantCheck(t, of(8, 4, 12, 5, 20, quiet, quiet-1), api.OK)
		wantCheck(t, of(8, 4, 12, 5, 20, quiet, quiet), api.ErrRange)
		wantCheck(t, of(8, 4, 12, 5, 20, quiet, quiet+1), api.ErrRange)
		wantCheck(t, of(8, 4, 12, 5, 20, quiet, -1), api.ErrRange)
	}
	for _, quiet := range append([]int{0, -1, 1001, 1002}, far...) {
		for _, calm := range append([]int{0, 1, 999, 1000, 1001, quiet, quiet - 1, quiet + 1}, far...) {
			wantCheck(t, of(8, 4, 12, 5, 20, quiet, calm), api.ErrRange)
		}
	}
}

func TestP22_1CheckOfSeveralPartsTogether(t *testing.T) {
	small := []int{math.MinInt, -1, 0, 1, 8, 16, 17, math.MaxInt}
	work := []int{math.MinInt, -1, 0, 1, mostWork, mostWork + 1, math.MaxInt}
	quiets := []int{math.MinInt, -1, 0, 1, 2, 1000, 1001, math.MaxInt}
	right := 0
	for _, limit := range small {
		for _, least := range small {
			for _, most := range small {
				for _, low := range work {
					for _, high := range work {
						for _, quiet := range quiets {
							for _, calm := range []int{math.MinInt, -1, 0, 1, 999, 1000, math.MaxInt} {
								st := of(limit, least, most, low, high, quiet, calm)
								want := modelCheck(st)
								if want == 0 {
									right++
								}
								if e := hyst.Check(st); e != want {
									t.Fatalf("Check(%s) = %d, want %d", show(st), e, want)
								}
							}
						}
					}
				}
			}
		}
	}
	if right != 10*6*6 { // three of 1, 8 and 16 in order; two of the four that work may be, without Low above High; three ways of Quiet
		t.Errorf("%d of them were right", right)
	}
}

func TestP22_1CheckOfTheRefused(t *testing.T) {
	for _, st := range refused() {
		wantCheck(t, st, api.ErrRange)
	}
}

func TestP22_1NewIsAtMostAndWithoutCalm(t *testing.T) {
	wantNew(t, 1, 16, 5, 20, 3)
	wantNew(t, 2, 12, 3, 10, 2)
	for _, r := range ranges() {
		for _, b := range bounds {
			for _, quiet := range []int{1, 2, 3, 999, 1000} {
				wantNew(t, r[0], r[1], b[0], b[1], quiet)
				st, _ := hyst.New(r[0], r[1], b[0], b[1], quiet)
				wantCheck(t, st, api.OK)
			}
		}
	}
}

func TestP22_1NewOfEachAlone(t *testing.T) {
	for _, n := range append([]int{-1, mostWork + 1}, far...) {
		wantNotNew(t, n, 16, 5, 20, 3)
		wantNotNew(t, 1, n, 5, 20, 3)
		wantNotNew(t, 1, 16, n, 20, 3)
		wantNotNew(t, 1, 16, 5, n, 3)
		wantNotNew(t, 1, 16, 5, 20, n)
		wantNotNew(t, n, 1, 0, 0, 1)
		wantNotNew(t, 1, n, 0, 0, 1)
		wantNotNew(t, 1, 1, n, 0, 1)
		wantNotNew(t, 1, 1, 0, n, 1)
		wantNotNew(t, 1, 1, 0, 0, n)
	}
	wantNotNew(t, 0, 16, 5, 20, 3)
	wantNotNew(t, 0, 0, 5, 20, 3)
	wantNotNew(t, 1, 0, 5, 20, 3)
	wantNotNew(t, 1, 17, 5, 20, 3)
	wantNotNew(t, 17, 17, 5, 20, 3)
	wantNotNew(t, 1, 16, 21, 20, 3)
	wantNotNew(t, 1, 16, 5, 4, 3)
	wantNotNew(t, 1, 16, 5, 20, 0)
	wantNotNew(t, 1, 16, 5, 20, 1001)
	for most := 1; most <= 16; most++ {
		wantNew(t, most, most, 0, 0, 1)
		wantNotNew(t, most+1, most, 0, 0, 1)
	}
	for _, b := range bounds {
		wantNotNew(t, 1, 16, b[1]+1, b[1], 3)
	}
}

func TestP22_1NewOfSeveralTogether(t *testing.T) {
	small := []int{math.MinInt, -1, 0, 1, 2, 15, 16, 17, math.MaxInt}
	work := []int{math.MinInt, -1, 0, 1, 20, mostWork, mostWork + 1, math.MaxInt}
	for _, least := range small {
		for _, most := range small {
			for _, low := range work {
				for _, high := range work {
					for _, quiet := range []int{math.MinInt, -1, 0, 1, 2, 1000, 1001, math.MaxInt} {
						if modelCheck(of(most, least, most, low, high, quiet, 0)) == 0 {
							wantNew(t, least, most, low, high, quiet)
						} else {
							wantNotNew(t, least, most, low, high, quiet)
						}
					}
				}
			}
		}
	}
}

func TestP22_1Zone(t *testing.T) {
	for backlog, want := range map[int]int{
		math.MinInt: -1, math.MinInt + 1: -1, -5: -1, -1: -1, 0: -1, 3: -1, 4: -1,
		5: 0, 6: 0, 12: 0, 19: 0, 20: 0,
		21: 1, 22: 1, mostWork: 1, mostWork + 1: 1, math.MaxInt - 1: 1, math.MaxInt: 1,
	} {
		wantZone(t, usual, backlog, want)
	}
}

func TestP22_1ZoneWhereLowIsHigh(t *testing.T) {
	for _, at := range []int{0, 1, 5, 20, mostWork - 1, mostWork} {
		st := of(8, 4, 12, at, at, 10, 3)
		for _, n := range []int{at, at - 1, at + 1} {
			wantZone(t, st, n, n-at)
		}
		for _, n := range []int{at - 2, -1, math.MinInt} {
			wantZone(t, st, n, -1)
		}
		for _, n := range []int{at + 2, mostWork + 1, math.MaxInt} {
			wantZone(t, st, n, 1)
		}
	}
}

// All that lies between is one zone, from Low to High.
func TestP22_1ZoneAboutItsBounds(t *testing.T) {
	for _, b := range bounds {
		for _, limit := range []int{1, 8, 16} {
			st := of(limit, 1, 16, b[0], b[1], 10, 9)
			for _, n := range lookedAt(b[0], b[1]) {
				wantZone(t, st, n, modelZone(st, n))
			}
		}
	}
	for low := 0; low <= 6; low++ {
		for high := low; high <= 6; high++ {
			for n := -2; n <= 8; n++ {
				st := of(2, 1, 3, low, high, 1, 0)
				wantZone(t, st, n, modelZone(st, n))
			}
		}
	}
}

// Zone asks of no more than High, and then of Low: it is told of a controller that may not be, too.
func TestP22_1ZoneOfTheRefused(t *testing.T) {
	wantZone(t, hyst.State{}, 1, 1)
	wantZone(t, hyst.State{}, 0, 0)
	wantZone(t, hyst.State{}, -1, -1)
	crossed := of(8, 4, 12, 20, 5, 10, 3)
	for backlog, want := range map[int]int{4: -1, 5: -1, 6: 1, 19: 1, 20: 1, 21: 1} { // what is above High is so first
		wantZone(t, crossed, backlog, want)
	}
	for _, st := range refused() {
		for _, n := range lookedAt(5, 20) {
			wantZone(t, st, n, modelZone(st, n))
		}
	}
}

func TestP22_2SeeAboveHighHalves(t *testing.T) {
	for backlog := 21; backlog <= 25; backlog++ {
		wantMoved(t, of(16, 1, 16, 5, 20, 3, 0), backlog, 8, 0)
		wantMoved(t, of(15, 1, 16, 5, 20, 3, 0), backlog, 7, 0)
		wantMoved(t, of(8, 1, 16, 5, 20, 3, 1), backlog, 4, 0)
		wantMoved(t, of(3, 1, 16, 5, 20, 3, 2), backlog, 1, 0)
		wantMoved(t, of(2, 1, 16, 5, 20, 3, 2), backlog, 1, 0)
	}
	for _, backlog := range []int{mostWork, mostWork + 1, math.MaxInt} {
		wantMoved(t, of(9, 1, 16, 5, 20, 3, 2), backlog, 4, 0)
	}
}

func TestP22_2SeeAboveHighAtLeast(t *testing.T) {
	wantMoved(t, of(16, 9, 16, 5, 20, 3, 0), 21, 9, 0)
	wantMoved(t, of(16, 8, 16, 5, 20, 3, 0), 21, 8, 0)
	wantMoved(t, of(7, 4, 16, 5, 20, 3, 2), 21, 4, 0)
	wantMoved(t, of(5, 4, 16, 5, 20, 3, 2), 21, 4, 0)
	for least := 1; least <= 16; least++ { // at Least it stays
		for calm := range 3 {
			wantStill(t, of(least, least, 16, 5, 20, 3, calm), 21, 0)
			wantStill(t, of(least, least, least, 5, 20, 3, calm), math.MaxInt, 0)
		}
	}
}

func TestP22_2SeeBetweenCountsAnew(t *testing.T) {
	for _, limit := range []int{1, 2, 8, 15, 16} {
		for calm := range 3 {
			for _, backlog := range []int{5, 6, 12, 19, 20} {
				wantStill(t, of(limit, 1, 16, 5, 20, 3, calm), backlog, 0)
			}
		}
	}
	for _, calm := range []int{0, 1, 998, 999} {
		wantStill(t, of(4, 2, 9, 0, mostWork, 1000, calm), 0, 0)
		wantStill(t, of(4, 2, 9, 0, mostWork, 1000, calm), mostWork, 0)
	}
}

func TestP22_2SeeBelowLowCounts(t *testing.T) {
	for _, limit := range []int{1, 2, 8, 15, 16} {
		for _, backlog := range []int{4, 0, -1, math.MinInt} {
			wantStill(t, of(limit, 1, 16, 5, 20, 4, 0), backlog, 1)
			wantStill(t, of(limit, 1, 16, 5, 20, 4, 1), backlog, 2)
			wantStill(t, of(limit, 1, 16, 5, 20, 4, 2), backlog, 3)
		}
	}
	for _, backlog := range []int{4, 0, -1, math.MinInt} {
		for _, limit := range []int{1, 2, 8, 15} {
			wantMoved(t, of(limit, 1, 16, 5, 20, 4, 3), backlog, limit+1, 0)
		}
		wantStill(t, of(16, 1, 16, 5, 20, 4, 3), backlog, 0)
	}
}

func TestP22_2SeeAtTheLongestQuiet(t *testing.T) {
	st := of(3, 2, 5, 1, 1, 1000, 0)
	for n := 1; n <= 999; n++ {
		wantStill(t, st, 0, n)
		st, _ = hyst.See(st, 0)
	}
	wantMoved(t, st, 0, 4, 0)
}

func TestP22_2SeeAtMostCountsAnewAllTheSame(t *testing.T) {
	for _, most := range []int{1, 2, 8, 16} {
		wantStill(t, of(most, 1, most, 5, 20, 3, 0), 0, 1)
		wantStill(t, of(most, 1, most, 5, 20, 3, 1), 0, 2)
		wantStill(t, of(most, 1, most, 5, 20, 3, 2), 0, 0)
		wantStill(t, of(most, most, most, 5, 20, 3, 2), 0, 0)
		wantStill(t, of(most, 1, most, 5, 20, 1, 0), 0, 0)
	}
}

func TestP22_2SeeWithoutQuietRisesAtEachLook(t *testing.T) {
	st := of(1, 1, 16, 5, 20, 1, 0)
	for limit := 2; limit <= 16; limit++ {
		wantMoved(t, st, 4, limit, 0)
		st, _ = hyst.See(st, 4)
	}
	wantStill(t, st, 4, 0)
}

// A look that isn't below Low stands between others that are: behind it they are counted from the first one on.
func TestP22_2SeeIsCountedAnewBehindAnother(t *testing.T) {
	for _, between := range []int{5, 12, 20, 21, math.MaxInt} {
		for ahead := range 3 {
			st := of(4, 4, 16, 5, 20, 3, 0)
			for range ahead {
				st, _ = hyst.See(st, 0)
			}
			wantStill(t, st, between, 0)
			st, _ = hyst.See(st, between)
			wantStill(t, st, 0, 1)
			st, _ = hyst.See(st, 0)
			wantStill(t, st, 0, 2)
			st, _ = hyst.See(st, 0)
			wantMoved(t, st, 0, 5, 0)
		}
	}
}

func TestP22_2SeeAsInTheExample(t *testing.T) {
	st, e := hyst.New(1, 16, 5, 20, 3)
	if e != api.OK {
		t.Fatal(e)
	}
	wantMoved(t, st, 21, 8, 0)
	st, _ = hyst.See(st, 21)
	for n, limit := range []int{8, 8, 9} {
		st, _ = hyst.See(st, 0)
		if st.Limit != limit || st.Calm != (n+1)%3 {
			t.Errorf("behind %d looks %s", n+1, show(st))
		}
	}
}

func TestP22_2SeeAgainstTheModel(t *testing.T) {
	for _, r := range ranges() {
		for limit := r[0]; limit <= r[1]; limit++ {
			for _, b := range bounds {
				for _, quiet := range []int{1, 2, 3, 1000} {
					for _, calm := range []int{0, 1, 2, quiet - 2, quiet - 1} {
						if calm < 0 || calm >= quiet {
							continue
						}
						st := of(limit, r[0], r[1], b[0], b[1], quiet, calm)
						for _, backlog := range []int{math.MinInt, -1, b[0] - 1, b[0], b[1], b[1] + 1, math.MaxInt} {
							want, is := modelSee(st, backlog)
							wantSeeing(t, st, backlog, want, is)
						}
					}
				}
			}
		}
	}
}

func TestP22_2SeeOfTheRefused(t *testing.T) {
	for _, st := range refused() {
		for _, backlog := range lookedAt(5, 20) {
			wantSeeing(t, st, backlog, st, false)
		}
	}
}

func TestP22_3RunOfNoLooks(t *testing.T) {
	for _, st := range append(refused(), usual, of(1, 1, 1, 0, 0, 1, 0), of(16, 16, 16, mostWork, mostWork, 1000, 999)) {
		wantRun(t, st, nil, st, 0)
		wantRun(t, st, []int{}, st, 0)
	}
}

func TestP22_3RunOfOne(t *testing.T) {
	for _, calm := range []int{0, 5, 9} {
		st := of(8, 4, 12, 5, 20, 10, calm)
		for _, backlog := range lookedAt(5, 20) {
			want, is := modelSee(st, backlog)
			n := 0
			if is {
				n = 1
			}
			wantRun(t, st, []int{backlog}, want, n)
		}
	}
}

func TestP22_3RunTellsHowOftenTheLimitChanged(t *testing.T) {
	st := of(16, 1, 16, 5, 20, 3, 0)
	wantRun(t, st, []int{21, 0, 0, 0}, told(st, 9, 0), 2)
	wantRun(t, st, []int{0, 0, 0, 21}, told(st, 8, 0), 1)
	wantRun(t, st, []int{21, 21, 21, 21, 21, 21}, told(st, 1, 0), 4)
	wantRun(t, st, []int{20, 5, 12}, st, 0)
	wantRun(t, st, []int{0, 0}, told(st, 16, 2), 0)
	wantRun(t, st, []int{21, 0, 0, 5, 0, 0, 20, 0, 0}, told(st, 8, 2), 1)
	wantRun(t, st, []int{21, 0, 0, 0, 0, 0, 0, 0}, told(st, 10, 1), 3)
	wantRun(t, st, []int{21, 0, 0, 0, 21, 0, 0, 0}, told(st, 5, 0), 4) // there and back is two, not none
	st = of(1, 1, 2, 1, 1, 1, 0)
	wantRun(t, st, []int{0, 2, 0, 2}, st, 4)
	wantRun(t, st, []int{0, 2, 0, 2, 0, 0}, told(st, 2, 0), 5)
}

// Looks that are less than as many as Quiet count on from one run to the next one.
func TestP22_3RunGoesOnFromARun(t *testing.T) {
	st := of(4, 1, 16, 5, 20, 5, 0)
	first, n := hyst.Run(st, []int{0, 0, 0})
	if first != told(st, 4, 3) || n != 0 {
		t.Fatalf("%s, %d", show(first), n)
	}
	wantRun(t, first, []int{0, 0}, told(st, 5, 0), 1)
}

func TestP22_3RunOfTheRefused(t *testing.T) {
	for _, st := range refused() {
		wantRun(t, st, []int{21, 0, 0, 0, 21, 5, math.MinInt, math.MaxInt}, st, 0)
	}
}

// All lists of up to six looks of each zone, of a controller that has little room.
func TestP22_3RunOfAllShortLists(t *testing.T) {
	lists := [][]int{nil}
	for from := 0; len(lists) < 1093; from++ {
		for _, backlog := range []int{0, 1, 2} {
			lists = append(lists, append(slices.Clone(lists[from]), backlog))
		}
	}
	for _, quiet := range []int{1, 2, 3} {
		for _, limit := range []int{2, 3, 5} {
			st := of(limit, 2, 5, 1, 1, quiet, 0)
			for _, l := range lists {
				want, n := st, 0
				for _, backlog := range l {
					next, is := modelSee(want, backlog)
					if want = next; is {
						n++
					}
				}
				wantRun(t, st, l, want, n)
			}
		}
	}
}

// made is a new controller with parts by chance, small ones for the most part.
func made(t *testing.T, r *rand.Rand) hyst.State {
	most := 1 + r.Intn(16)
	high := []int{r.Intn(3), r.Intn(30), mostWork - r.Intn(3)}[r.Intn(3)]
	quiet := []int{1, 2, 1 + r.Intn(5), 1 + r.Intn(40), 1000}[r.Intn(5)]
	st, e := hyst.New(1+r.Intn(most), most, r.Intn(high+1), high, quiet)
	if e != api.OK {
		t.Fatal(e)
	}
	return st
}

// waiting is how much waits by chance: for some looks one zone alone, so that Calm comes to Quiet.
func waiting(r *rand.Rand, st hyst.State, count int) []int {
	var l []int
	for len(l) < count {
		choice := []int{st.Low - 1, st.Low - 1, math.MinInt, st.Low, st.High, st.High + 1, math.MaxInt, r.Intn(40) - 5}
		backlog := choice[r.Intn(len(choice))]
		for range 1 + r.Intn(2*st.Quiet+2) {
			l = append(l, backlog)
		}
	}
	return l[:count]
}

func TestP22_3RunIsSeeOneByOne(t *testing.T) {
	r := rand.New(rand.NewSource(223))
	changes := 0
	for range 400 {
		st := made(t, r)
		l := waiting(r, st, 1+r.Intn(200))
		one, model, n := st, st, 0
		for i, backlog := range l {
			next, is := hyst.See(one, backlog)
			want, wantIs := modelSee(model, backlog)
			if next != want || is != wantIs {
				t.Fatalf("look %d of %v of %s: %s, %t, want %s, %t", i, l, show(st), show(next), is, show(want), wantIs)
			}
			one, model = next, want
			if is {
				n++
			}
			if i%17 == 0 {
				wantRun(t, st, l[:i+1], one, n)
			}
		}
		wantRun(t, st, l, one, n)
		changes += n
	}
	if changes < 1000 {
		t.Errorf("the limits changed only %d times", changes)
	}
}

// What is told of many looks: how the Limit moved at each of them.
func TestP22_4OverManyMakingsAndLooks(t *testing.T) {
	r := rand.New(rand.NewSource(224))
	rises, falls := 0, 0
	for range 300 {
		st := made(t, r)
		last := -1 // the look at which it rose last
		for i, backlog := range waiting(r, st, 50+r.Intn(400)) {
			next, is := hyst.See(st, backlog)
			zone := modelZone(st, backlog)
			switch {
			case next.Limit < next.Least || next.Limit > next.Most || hyst.Check(next) != api.OK:
				t.Fatalf("behind %s: %s", show(st), show(next))
			case next != told(st, next.Limit, next.Calm):
				t.Fatalf("behind %s another one: %s", show(st), show(next))
			case is != (next.Limit != st.Limit):
				t.Fatalf("behind %s: %s, %t", show(st), show(next), is)
			case next.Limit > st.Limit && (zone != -1 || next.Limit != st.Limit+1):
				t.Fatalf("behind %s at %d it rose: %s", show(st), backlog, show(next))
			case next.Limit < st.Limit && zone != 1:
				t.Fatalf("behind %s at %d it fell: %s", show(st), backlog, show(next))
			case next.Limit > st.Limit && last >= 0 && i-last < st.Quiet:
				t.Fatalf("%s rose at the looks %d and %d", show(st), last, i)
			case next.Limit > st.Limit && last < 0 && i+1 < st.Quiet:
				t.Fatalf("%s rose at the look %d already", show(st), i)
			}
			if next.Limit > st.Limit {
				last = i
				rises++
			}
			if next.Limit < st.Limit {
				falls++
			}
			st = next
		}
	}
	if rises < 500 || falls < 500 {
		t.Errorf("only %d rises, %d falls", rises, falls)
	}
}

func TestP22_4BetweenLowAndHighItStays(t *testing.T) {
	r := rand.New(rand.NewSource(2240))
	for range 500 {
		st := made(t, r)
		st, _ = hyst.Run(st, waiting(r, st, 50))
		var l []int
		for range 1 + r.Intn(2*st.Quiet) {
			l = append(l, st.Low+r.Intn(st.High-st.Low+1))
		}
		wantRun(t, st, l, told(st, st.Limit, 0), 0)
	}
}

func TestP22_4AsLongAsTooMuchWaitsItComesDownToLeast(t *testing.T) {
	for _, r := range ranges() {
		for limit := r[0]; limit <= r[1]; limit++ {
			st := of(limit, r[0], r[1], 5, 20, 7, 6)
			for range 5 { // 16 halved five times is below any Least
				next, is := hyst.See(st, 21)
				if next.Limit > st.Limit || is != (st.Limit > st.Least) {
					t.Fatalf("behind %s: %s, %t", show(st), show(next), is)
				}
				st = next
			}
			if st != of(r[0], r[0], r[1], 5, 20, 7, 0) {
				t.Errorf("from %d: %s", limit, show(st))
			}
		}
	}
}

func TestP22_4AsLongAsLittleWaitsItComesUpToMost(t *testing.T) {
	for _, r := range ranges() {
		for limit := r[0]; limit <= r[1]; limit++ {
			for _, quiet := range []int{1, 2, 7} {
				st := of(limit, r[0], r[1], 5, 20, quiet, 0)
				for up := range r[1] - limit {
					l := make([]int, quiet)
					wantRun(t, st, l[1:], told(st, limit+up, quiet-1), 0)
					wantRun(t, st, l, told(st, limit+up+1, 0), 1)
					st, _ = hyst.Run(st, l)
				}
				wantRun(t, st, make([]int, 3*quiet), told(st, r[1], 0), 0)
			}
		}
	}
}
