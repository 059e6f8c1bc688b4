package sets_test

import (
	"math"
	"slices"
	"testing"

	"footman/api"
	"footman/sets"
)

const (
	greatest       = 4294967295
	greatestWindow = 2147483647
	leastFrame     = 16384
	greatestFrame  = 16777215
	protocolError  = 1
	flowError      = 3
)

var (
	first     = sets.Values{Table: 4096, Push: 1, Streams: greatest, Window: 65535, Frame: leastFrame, List: greatest}
	lowest    = sets.Values{Frame: leastFrame}
	highest   = sets.Values{Table: greatest, Push: 1, Streams: greatest, Window: greatestWindow, Frame: greatestFrame, List: greatest}
	different = sets.Values{Table: 100, Streams: 8, Window: 1000, Frame: 20000, List: 2000}
)

// with is values of which one, told by its number, is another one.
func with(v sets.Values, id, n int) sets.Values {
	switch id {
	case 1:
		v.Table = n
	case 2:
		v.Push = n
	case 3:
		v.Streams = n
	case 4:
		v.Window = n
	case 5:
		v.Frame = n
	case 6:
		v.List = n
	}
	return v
}

func valueOf(v sets.Values, id int) int {
	switch id {
	case 1:
		return v.Table
	case 2:
		return v.Push
	case 3:
		return v.Streams
	case 4:
		return v.Window
	case 5:
		return v.Frame
	}
	return v.List
}

func pair(id, n int) api.Pair { return api.Pair{ID: uint16(id), Value: uint32(n)} }

// pairs is a list of a number and a value, a number and a value, and so on.
func pairs(numbers ...int) []api.Pair {
	var l []api.Pair
	for i := 0; i < len(numbers); i += 2 {
		l = append(l, pair(numbers[i], numbers[i+1]))
	}
	return l
}

// modelMayBe tells whether values may be, field by field.
func modelMayBe(v sets.Values) bool {
	switch {
	case v.Table < 0, v.Table > greatest:
	case v.Push != 0 && v.Push != 1:
	case v.Streams < 0, v.Streams > greatest:
	case v.Window < 0, v.Window > greatestWindow:
	case v.Frame < leastFrame, v.Frame > greatestFrame:
	case v.List < 0, v.List > greatest:
	default:
		return true
	}
	return false
}

// modelApply sets values pair by pair, told case by case.
func modelApply(was sets.Values, l []api.Pair) (sets.Values, api.Code) {
	if !modelMayBe(was) {
		return was, 0
	}
	v := was
	for _, p := range l {
		n := int(p.Value)
		switch {
		case p.ID == 2 && n > 1, p.ID == 5 && n < leastFrame, p.ID == 5 && n > greatestFrame:
			return was, protocolError
		case p.ID == 4 && n > greatestWindow:
			return was, flowError
		}
		v = with(v, int(p.ID), n)
	}
	return v, 0
}

func modelPairs(from, to sets.Values) []api.Pair {
	var l []api.Pair
	if !modelMayBe(from) || !modelMayBe(to) {
		return l
	}
	for id := 1; id <= 6; id++ {
		if n := valueOf(to, id); n != valueOf(from, id) {
			l = append(l, pair(id, n))
		}
	}
	return l
}

// edges are a setting's values that may be: the least, the greatest, the first, and what is beside them.
func edges(id int) []int {
	switch id {
	case 1:
		return []int{0, 1, 4095, 4096, 4097, greatest - 1, greatest}
	case 2:
		return []int{0, 1}
	case 4:
		return []int{0, 1, 65534, 65535, 65536, greatestWindow - 1, greatestWindow}
	case 5:
		return []int{leastFrame, leastFrame + 1, greatestFrame - 1, greatestFrame}
	}
	return []int{0, 1, 16, 1024, greatest - 1, greatest}
}

// outside are a setting's values that may not be: just out of range, and far out of it, also such as would be right with their lowest 32 bits alone.
func outside(id int) []int {
	l := []int{-1, -2, -greatest, -1 << 32, -1<<32 + leastFrame, -1<<32 + 1, 1 << 32, 1<<32 + 1, 1<<32 + leastFrame, 1 << 40, 1<<40 + 20000, math.MinInt32, math.MinInt, math.MinInt + leastFrame, math.MaxInt - 1, math.MaxInt}
	switch id {
	case 2:
		l = append(l, 2, 3, 256, greatestWindow, greatest)
	case 4:
		l = append(l, greatestWindow+1, greatestWindow+2, greatest)
	case 5:
		l = append(l, 0, 1, leastFrame-2, leastFrame-1, greatestFrame+1, greatestFrame+2, greatestWindow, greatest)
	}
	return l
}

// right are values that may be: ones far from each other, and each of these with one value at an edge.
func right() []sets.Values {
	l := []sets.Values{first, lowest, highest, different}
	for _, v := range l[:4] {
		for id := 1; id <= 6; id++ {
			for _, n := range edges(id) {
				l = append(l, with(v, id, n))
			}
		}
	}
	return l
}

// refused are values of each kind that may not be.
func refused() []sets.Values {
	l := []sets.Values{
		{},
		{Table: -1, Push: -1, Streams: -1, Window: -1, Frame: -1, List: -1},
		{Table: 1 << 32, Push: 2, Streams: 1 << 32, Window: 1 << 31, Frame: 1 << 24, List: 1 << 32},
		{Table: math.MinInt, Push: math.MinInt, Streams: math.MinInt, Window: math.MinInt, Frame: math.MinInt, List: math.MinInt},
		{Table: math.MaxInt, Push: math.MaxInt, Streams: math.MaxInt, Window: math.MaxInt, Frame: math.MaxInt, List: math.MaxInt},
	}
	for _, v := range []sets.Values{first, lowest, highest} {
		for id := 1; id <= 6; id++ {
			for _, n := range outside(id) {
				l = append(l, with(v, id, n))
			}
		}
	}
	return l
}

// lists are pairs of many kinds: right ones, faults, and ones that count for nothing.
func lists() [][]api.Pair {
	l := [][]api.Pair{nil, {}}
	for _, id := range []int{0, 1, 2, 3, 4, 5, 6, 7, 8, 65535} {
		for _, n := range []int{0, 1, 2, leastFrame - 1, leastFrame, greatestFrame, greatestFrame + 1, greatestWindow, greatestWindow + 1, greatest} {
			l = append(l, pairs(id, n))
		}
	}
	alone := slices.Clone(l[2:])
	for i, a := range alone {
		for j, b := range alone {
			if (i+j)%3 == 0 {
				l = append(l, slices.Concat(a, b), slices.Concat(a, b, alone[(i*7+j)%len(alone)]))
			}
		}
	}
	return l
}

func wantCheck(t *testing.T, v sets.Values, want api.Errno) {
	t.Helper()
	if e := sets.Check(v); e != want {
		t.Errorf("Check(%v) = %d, want %d", v, e, want)
	}
}

// apply also holds what is so of every answer: that the pairs stay as they were, with what stands in their room behind; and that values that may be are still such.
func apply(t *testing.T, v sets.Values, l []api.Pair) (sets.Values, api.Code) {
	t.Helper()
	was := append(slices.Clone(l), pair(3, 77), pair(1, 78))
	came := slices.Clone(was)
	got, code := sets.Apply(v, came[:len(l)])
	if !slices.Equal(came, was) {
		t.Errorf("Apply(%v, %v) changed the pairs: %v", v, l, came)
	}
	if sets.Check(v) == api.OK && sets.Check(got) != api.OK {
		t.Errorf("Apply(%v, %v) left %v, which Check refuses", v, l, got)
	}
	return got, code
}

func wantApply(t *testing.T, v sets.Values, l []api.Pair, want sets.Values, wantCode api.Code) {
	t.Helper()
	if got, code := apply(t, v, l); got != want || code != wantCode {
		t.Errorf("Apply(%v, %v) = %v, %d, want %v, %d", v, l, got, code, want, wantCode)
	}
}

// wantSet holds that pairs are taken.
func wantSet(t *testing.T, v sets.Values, l []api.Pair, want sets.Values) {
	t.Helper()
	wantApply(t, v, l, want, api.NoError)
}

// wantFault holds that one of the pairs is a fault, which leaves the values as they were.
func wantFault(t *testing.T, v sets.Values, l []api.Pair, want api.Code) {
	t.Helper()
	wantApply(t, v, l, v, want)
}

func wantPairs(t *testing.T, from, to sets.Values, want []api.Pair) {
	t.Helper()
	if l := sets.Pairs(from, to); !slices.Equal(l, want) {
		t.Errorf("Pairs(%v, %v) = %v, want %v", from, to, l, want)
	}
}

func TestP12_1First(t *testing.T) {
	v := sets.First()
	for id, want := range map[int]int{1: 4096, 2: 1, 3: 4294967295, 4: 65535, 5: 16384, 6: 4294967295} {
		if n := valueOf(v, id); n != want {
			t.Errorf("First has %d = %d, want %d", id, n, want)
		}
	}
	wantCheck(t, v, api.OK)
}

func TestP12_1CheckOfEachValueAlone(t *testing.T) {
	for id := 1; id <= 6; id++ {
		wantCheck(t, with(first, id, -1), api.ErrRange)
		wantCheck(t, with(first, id, 1<<32), api.ErrRange)
	}
	for _, id := range []int{1, 3, 6} {
		wantCheck(t, with(first, id, 0), api.OK)
		wantCheck(t, with(first, id, greatest), api.OK)
	}
	wantCheck(t, with(first, 2, 0), api.OK)
	wantCheck(t, with(first, 2, greatest), api.ErrRange)
	wantCheck(t, with(first, 4, 0), api.OK)
	wantCheck(t, with(first, 4, greatest), api.ErrRange)
	wantCheck(t, with(first, 5, 0), api.ErrRange)
	wantCheck(t, with(first, 5, greatest), api.ErrRange)
}

func TestP12_1CheckOfPush(t *testing.T) {
	for n, want := range []api.Errno{api.OK, api.OK, api.ErrRange, api.ErrRange} {
		wantCheck(t, with(first, 2, n), want)
	}
}

func TestP12_1CheckOfWindow(t *testing.T) {
	for n, want := range map[int]api.Errno{2147483646: api.OK, 2147483647: api.OK, 2147483648: api.ErrRange, 2147483649: api.ErrRange} {
		wantCheck(t, with(first, 4, n), want)
	}
}

func TestP12_1CheckOfFrame(t *testing.T) {
	for n, want := range map[int]api.Errno{1: api.ErrRange, 16383: api.ErrRange, 16384: api.OK, 16385: api.OK, 16777214: api.OK, 16777215: api.OK, 16777216: api.ErrRange} {
		wantCheck(t, with(first, 5, n), want)
	}
}

func TestP12_1CheckOfValuesThatMayBe(t *testing.T) {
	wantCheck(t, lowest, api.OK)
	wantCheck(t, highest, api.OK)
	for _, v := range right() {
		wantCheck(t, v, api.OK)
	}
}

func TestP12_1CheckOfValuesThatMayNotBe(t *testing.T) {
	for _, v := range refused() {
		wantCheck(t, v, api.ErrRange)
	}
}

// Of two values each one alone is enough to be refused.
func TestP12_1CheckOfTwoValues(t *testing.T) {
	for one := 1; one <= 6; one++ {
		for two := one + 1; two <= 6; two++ {
			for _, a := range append(edges(one), outside(one)...) {
				for _, b := range append(edges(two), outside(two)...) {
					v, want := with(with(different, one, a), two, b), api.OK
					if !modelMayBe(v) {
						want = api.ErrRange
					}
					wantCheck(t, v, want)
				}
			}
		}
	}
}

func TestP12_2Example(t *testing.T) {
	wantSet(t, sets.First(), []api.Pair{{ID: 3, Value: 100}}, sets.Values{Table: 4096, Push: 1, Streams: 100, Window: 65535, Frame: 16384, List: greatest})
}

func TestP12_2NoPairs(t *testing.T) {
	for _, v := range right() {
		for _, l := range [][]api.Pair{nil, {}} {
			if got, code := sets.Apply(v, l); got != v || code != api.NoError {
				t.Errorf("Apply(%v, no pairs) = %v, %d", v, got, code)
			}
		}
	}
}

func TestP12_2EachNumberAlone(t *testing.T) {
	for _, n := range []int{0, 1} {
		for _, id := range []int{1, 2, 3, 4, 6} {
			wantSet(t, first, pairs(id, n), with(first, id, n))
		}
		wantFault(t, first, pairs(5, n), protocolError)
	}
	for _, id := range []int{1, 3, 6} {
		wantSet(t, first, pairs(id, greatest), with(first, id, greatest))
		wantSet(t, lowest, pairs(id, greatest), with(lowest, id, greatest))
	}
	wantFault(t, first, pairs(2, greatest), protocolError)
	wantFault(t, first, pairs(4, greatest), flowError)
	wantFault(t, first, pairs(5, greatest), protocolError)
}

func TestP12_2Push(t *testing.T) {
	for _, v := range right() {
		wantSet(t, v, pairs(2, 0), with(v, 2, 0))
		wantSet(t, v, pairs(2, 1), with(v, 2, 1))
		for _, n := range []int{2, 3, 255, 256, 65536, 1 << 31, greatest} {
			wantFault(t, v, pairs(2, n), protocolError)
		}
	}
}

func TestP12_2Window(t *testing.T) {
	for _, v := range right() {
		for _, n := range []int{0, 1, 65535, 65536, greatestWindow - 1, greatestWindow} {
			wantSet(t, v, pairs(4, n), with(v, 4, n))
		}
		for _, n := range []int{greatestWindow + 1, greatestWindow + 2, greatest - 1, greatest} {
			wantFault(t, v, pairs(4, n), flowError)
		}
	}
}

func TestP12_2Frame(t *testing.T) {
	for _, v := range right() {
		for _, n := range []int{16384, 16385, 20000, 16777214, 16777215} {
			wantSet(t, v, pairs(5, n), with(v, 5, n))
		}
		for _, n := range []int{0, 1, 16382, 16383, 16777216, 16777217, 1 << 31, greatest} {
			wantFault(t, v, pairs(5, n), protocolError)
		}
	}
}

func TestP12_2TableStreamsAndList(t *testing.T) {
	for _, v := range right() {
		for _, id := range []int{1, 3, 6} {
			for _, n := range []int{0, 1, 4096, 4097, 1 << 31, greatest - 1, greatest} {
				wantSet(t, v, pairs(id, n), with(v, id, n))
			}
		}
	}
}

func TestP12_2OthersCountForNothing(t *testing.T) {
	for _, id := range []int{0, 7, 8, 9, 255, 256, 257, 258, 32769, 65534, 65535} {
		for _, n := range []int{0, 1, 2, leastFrame, greatest} {
			wantSet(t, first, pairs(id, n), first)
			wantSet(t, different, pairs(id, n, id, n), different)
			set := with(with(different, 3, 100), 4, 5)
			wantSet(t, different, pairs(id, n, 3, 100, 4, 5), set)
			wantSet(t, different, pairs(3, 100, 4, 5, id, n), set)
			wantSet(t, different, pairs(3, 100, id, n, 4, 5), set)
			wantSet(t, different, pairs(id, n, 3, 100, id, n, 4, 5, id, n), set)
			wantFault(t, different, pairs(id, n, 4, greatest), flowError)
			wantFault(t, different, pairs(2, 2, id, n), protocolError)
		}
	}
}

func TestP12_2AllNumbersTogether(t *testing.T) {
	wantSet(t, first, pairs(1, 100, 2, 0, 3, 8, 4, 1000, 5, 20000, 6, 2000), different)
	wantSet(t, different, pairs(6, greatest, 5, leastFrame, 4, 65535, 3, greatest, 2, 1, 1, 4096), first)
	wantSet(t, highest, pairs(4, 0, 1, 0, 6, 0, 2, 0, 5, leastFrame, 3, 0), lowest)
	wantSet(t, lowest, pairs(2, 1, 5, greatestFrame, 3, greatest, 1, greatest, 6, greatest, 4, greatestWindow), highest)
}

// faults are a setting's values that are faults, of the numbers that have such.
func faults() map[int][]int {
	return map[int][]int{2: {2, greatest}, 4: {greatestWindow + 1, greatest}, 5: {0, leastFrame - 1, greatestFrame + 1, greatest}}
}

func codeOf(id int) api.Code {
	if id == 4 {
		return flowError
	}
	return protocolError
}

func TestP12_2TwoPairsWithOneNumberOfWhichOneIsAFault(t *testing.T) {
	for id, l := range faults() {
		for _, n := range l {
			for _, good := range edges(id) {
				for _, v := range []sets.Values{first, lowest, highest, different} {
					wantFault(t, v, pairs(id, n, id, good), codeOf(id))
					wantFault(t, v, pairs(id, good, id, n), codeOf(id))
				}
			}
		}
	}
}

func TestP12_2PairsAheadOfAFaultAndBehindIt(t *testing.T) {
	good := pairs(1, 5, 2, 0, 3, 7, 4, 9, 5, 17000, 6, 11)
	for id, l := range faults() {
		for _, n := range l {
			for at := range len(good) + 1 {
				wantFault(t, first, slices.Insert(slices.Clone(good), at, pair(id, n)), codeOf(id))
			}
		}
	}
}

func TestP12_2OfTwoFaultsTheFirstOneIsTold(t *testing.T) {
	for one, l := range faults() {
		for two, m := range faults() {
			for _, a := range l {
				for _, b := range m {
					wantFault(t, different, pairs(one, a, two, b), codeOf(one))
					wantFault(t, different, pairs(3, 1, one, a, 1, 1, two, b, 6, 1), codeOf(one))
				}
			}
		}
	}
}

func TestP12_2ManyPairsAgainstTheModel(t *testing.T) {
	for _, v := range right() {
		for _, l := range lists() {
			want, code := modelApply(v, l)
			wantApply(t, v, l, want, code)
		}
	}
}

func TestP12_2ValuesThatCheckRefusesAreAsTheyAre(t *testing.T) {
	few := [][]api.Pair{nil, {}, pairs(1, 5), pairs(2, 2), pairs(4, greatest), pairs(5, 0), pairs(7, 1), pairs(1, 4096, 2, 1, 3, 5, 4, 65535, 5, leastFrame, 6, 1024)}
	for _, v := range refused() {
		for _, l := range few {
			wantApply(t, v, l, v, api.NoError)
		}
	}
	for _, v := range refused()[:5] {
		for _, l := range lists() {
			wantApply(t, v, l, v, api.NoError)
		}
	}
}

// A right pair of the same number would mend such values, were it taken.
func TestP12_2AValueOutOfRangeIsNotMended(t *testing.T) {
	for id := 1; id <= 6; id++ {
		for _, n := range outside(id) {
			for _, good := range edges(id) {
				v := with(first, id, n)
				wantApply(t, v, pairs(id, good), v, api.NoError)
			}
		}
	}
}

func TestP12_3PairsOfValuesAndThemselves(t *testing.T) {
	for _, v := range right() {
		wantPairs(t, v, v, nil)
	}
}

func TestP12_3PairsOfOneValueThatDiffers(t *testing.T) {
	for id := 1; id <= 6; id++ {
		for _, a := range edges(id) {
			for _, b := range edges(id) {
				for _, v := range []sets.Values{first, lowest, highest, different} {
					var want []api.Pair
					if a != b {
						want = pairs(id, b)
					}
					wantPairs(t, with(v, id, a), with(v, id, b), want)
				}
			}
		}
	}
}

func TestP12_3PairsOfTwoValuesThatDiffer(t *testing.T) {
	for one := 1; one <= 6; one++ {
		for two := one + 1; two <= 6; two++ {
			a, b := valueOf(different, one), valueOf(different, two)
			wantPairs(t, first, with(with(first, one, a), two, b), pairs(one, a, two, b))
			wantPairs(t, with(with(first, one, a), two, b), first, pairs(one, valueOf(first, one), two, valueOf(first, two)))
		}
	}
}

func TestP12_3PairsOfAllSixValues(t *testing.T) {
	wantPairs(t, first, different, pairs(1, 100, 2, 0, 3, 8, 4, 1000, 5, 20000, 6, 2000))
	wantPairs(t, different, first, pairs(1, 4096, 2, 1, 3, greatest, 4, 65535, 5, leastFrame, 6, greatest))
	wantPairs(t, lowest, highest, pairs(1, greatest, 2, 1, 3, greatest, 4, greatestWindow, 5, greatestFrame, 6, greatest))
	wantPairs(t, highest, lowest, pairs(1, 0, 2, 0, 3, 0, 4, 0, 5, leastFrame, 6, 0))
}

func TestP12_3PairsOfManyValuesAgainstTheModel(t *testing.T) {
	for _, from := range right() {
		for _, to := range right() {
			wantPairs(t, from, to, modelPairs(from, to))
		}
	}
}

func TestP12_3PairsOfValuesThatCheckRefuses(t *testing.T) {
	for i, v := range refused() {
		for _, good := range []sets.Values{first, lowest, highest, different} {
			wantPairs(t, v, good, nil)
			wantPairs(t, good, v, nil)
		}
		wantPairs(t, v, v, nil)
		wantPairs(t, v, refused()[(i+1)%len(refused())], nil)
	}
}

func TestP12_3Own(t *testing.T) {
	want := map[int]int{-1: 0, 0: 0, 1: 1, 2: 2, 5: 5, 15: 15, 16: 16, 17: 16, 18: 16, 100: 16, -16: 0, 1 << 31: 16, greatest: 16, 1 << 32: 16, 1<<32 + 5: 16, -1 << 32: 0, -1<<32 + 5: 0, math.MinInt32: 0, math.MaxInt32: 16, math.MinInt: 0, math.MinInt + 5: 0, math.MaxInt: 16}
	for n, streams := range want {
		l := sets.Own(n)
		if !slices.Equal(l, pairs(3, streams, 6, 1024)) {
			t.Errorf("Own(%d) = %v, want 3 = %d, 6 = 1024", n, l, streams)
		}
		wantSet(t, sets.First(), l, sets.Values{Table: 4096, Push: 1, Streams: streams, Window: 65535, Frame: 16384, List: 1024})
	}
}

// wantApart holds that two answers of one call have nothing in common, and that nothing stands in their spare room.
func wantApart(t *testing.T, call func() []api.Pair) {
	t.Helper()
	one, two := call(), call()
	want := slices.Clone(two)
	for _, p := range one[:cap(one)][len(one):] {
		if p != (api.Pair{}) {
			t.Errorf("the room behind the pairs has %v", p)
		}
	}
	for i := range one[:cap(one)] {
		one[:cap(one)][i] = pair(77, 77)
	}
	if !slices.Equal(two, want) || !slices.Equal(call(), want) {
		t.Errorf("another answer changes with the first one: %v, %v, want %v", two, call(), want)
	}
}

func TestP12_3AnswersAreNewMemory(t *testing.T) {
	wantApart(t, func() []api.Pair { return sets.Own(5) })
	wantApart(t, func() []api.Pair { return sets.Pairs(first, different) })
	wantApart(t, func() []api.Pair { return sets.Pairs(first, with(first, 3, 5)) })
}

// atEdges are all values of which each one is at an edge of its own.
func atEdges() []sets.Values {
	l := []sets.Values{{}}
	for id, some := range map[int][]int{1: {0, 4096, greatest}, 2: {0, 1}, 3: {0, 16, greatest}, 4: {0, 65535, greatestWindow}, 5: {leastFrame, leastFrame + 1, greatestFrame}, 6: {0, 1024, greatest}} {
		var next []sets.Values
		for _, v := range l {
			for _, n := range some {
				next = append(next, with(v, id, n))
			}
		}
		l = next
	}
	return l
}

// wantBetween holds that what is between two values, applied to the first ones, makes the second ones.
func wantBetween(t *testing.T, from, to sets.Values) {
	t.Helper()
	l := sets.Pairs(from, to)
	if got, code := sets.Apply(from, l); got != to || code != api.NoError {
		t.Errorf("Apply(%v, %v) = %v, %d, want %v", from, l, got, code, to)
	}
}

func TestP12_4WhatIsBetweenMakesTheSecondOnes(t *testing.T) {
	l := atEdges()
	if len(l) != 486 {
		t.Fatalf("%d values", len(l))
	}
	for _, from := range l {
		for _, to := range l {
			wantBetween(t, from, to)
		}
	}
	for _, from := range right() {
		for _, to := range right() {
			wantBetween(t, from, to)
		}
	}
}

// Behind other pairs of the same numbers it is none the less what counts.
func TestP12_4WhatIsBetweenCountsBehindOthers(t *testing.T) {
	for _, from := range right() {
		for _, to := range []sets.Values{first, lowest, highest, different} {
			l := sets.Pairs(from, to)
			other := sets.Pairs(to, from) // the same numbers
			wantSet(t, from, slices.Concat(other, l), to)
			wantSet(t, from, slices.Concat(l, other, l), to)
			wantSet(t, from, slices.Concat(l, other), from)
		}
	}
}

func TestP12_4OfTwoPairsWithOneNumberTheLastOneCounts(t *testing.T) {
	for id := 1; id <= 6; id++ {
		for _, a := range edges(id) {
			for _, b := range edges(id) {
				for _, v := range []sets.Values{first, lowest, highest, different} {
					want := with(v, id, b)
					wantSet(t, v, pairs(id, a, id, b), want)
					wantSet(t, v, pairs(id, b, id, a, id, b), want)
					wantSet(t, v, pairs(id, a, 7, 3, id, a, id, b, 0, 3), want)
					other := id%6 + 1
					wantSet(t, v, pairs(id, a, other, edges(other)[0], id, b), with(want, other, edges(other)[0]))
				}
			}
		}
	}
}

// Pairs applied one by one make what they make together; up to a fault, which is told together as it is told alone.
func TestP12_4OneByOneIsAsTogether(t *testing.T) {
	for _, v := range []sets.Values{first, lowest, highest, different} {
		for _, l := range lists() {
			want, wantCode := v, api.NoError
			for _, p := range l {
				if want, wantCode = apply(t, want, []api.Pair{p}); wantCode != api.NoError {
					want = v
					break
				}
			}
			wantApply(t, v, l, want, wantCode)
			for at := range len(l) + 1 {
				half, code := apply(t, v, l[:at])
				if code != api.NoError || wantCode != api.NoError {
					break
				}
				wantSet(t, half, l[at:], want)
			}
		}
	}
}

func TestP12_4ValuesThatMayBeMayBeBehindAnyPairs(t *testing.T) {
	v := first
	for _, l := range lists() {
		v, _ = apply(t, v, l)
		if !modelMayBe(v) {
			t.Fatalf("behind %v stands %v", l, v)
		}
	}
}
