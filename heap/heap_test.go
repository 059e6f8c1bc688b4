package heap_test

import (
	"math"
	"math/big"
	"math/rand"
	"slices"
	"strconv"
	"strings"
	"testing"

	"footman/api"
	"footman/heap"
)

// numbers are about nought, about what 32 bits can tell, and to both ends of what an int can.
var numbers = []int{
	math.MinInt, math.MinInt + 1, -1 << 62, -1<<32 - 1, -1 << 32, math.MinInt32 - 1, math.MinInt32, -256, -2, -1,
	0, 1, 2, 255, 256, math.MaxInt32, math.MaxInt32 + 1, 1 << 32, 1<<32 + 1, 1 << 62, math.MaxInt - 1, math.MaxInt,
}

// behind is what stands in the room behind a list that is handed in: less than all else, so that it would be seen.
var behind = []heap.Item{it(math.MinInt, -77), it(math.MinInt, -78), it(math.MinInt, -79), it(math.MinInt, -80)}

func it(key, id int) heap.Item { return heap.Item{Key: key, ID: id} }

// keyed are items of these keys, each with its place as its ID.
func keyed(keys ...int) heap.Heap {
	var l heap.Heap
	for i, k := range keys {
		l = append(l, it(k, i))
	}
	return l
}

// up are the keys from 0 on, and down the same against the order.
func up(n int) heap.Heap {
	var l heap.Heap
	for i := range n {
		l = append(l, it(i, i))
	}
	return l
}

func down(n int) heap.Heap {
	l := up(n)
	slices.Reverse(l)
	return l
}

// alike is n times the same.
func alike(n int) heap.Heap { return slices.Repeat(heap.Heap{it(4, 9)}, n) }

func show(l []heap.Item) string {
	var b strings.Builder
	for i, x := range l {
		if i == 24 {
			return b.String() + " of " + strconv.Itoa(len(l))
		}
		b.WriteString(" " + showItem(x))
	}
	return "[" + b.String() + " ]"
}

func showItem(x heap.Item) string { return strconv.Itoa(x.Key) + "/" + strconv.Itoa(x.ID) }

// rank is an item as one number without range, by which it is less than another one.
func rank(x heap.Item) *big.Int {
	n := new(big.Int).Lsh(big.NewInt(int64(x.Key)), 70)
	return n.Add(n, big.NewInt(int64(x.ID)))
}

// order is as Less says, by asking for each way in which two items lie.
func order(a, b heap.Item) int {
	switch {
	case a == b:
		return 0
	case a.Key < b.Key:
		return -1
	case a.Key > b.Key:
		return 1
	case a.ID < b.ID:
		return -1
	}
	return 1
}

func inOrder(l []heap.Item) []heap.Item {
	s := slices.Clone(l)
	slices.SortFunc(s, order)
	return s
}

// modelIsHeap goes from each place down to the two below it.
func modelIsHeap(l []heap.Item) bool {
	for i, x := range l {
		for n := 2*i + 1; n < len(l) && n < 2*i+3; n++ {
			if order(l[n], x) < 0 {
				return false
			}
		}
	}
	return true
}

func roomy(l []heap.Item) heap.Heap {
	more := append(slices.Clone(l), behind...)
	return more[:len(l)]
}

// wantStill wants a roomy copy of l, with its room, to be as it was.
func wantStill(t *testing.T, given, l []heap.Item) {
	t.Helper()
	if !slices.Equal(given, l) || !slices.Equal(given[:len(l)+len(behind)][len(l):], behind) {
		t.Errorf("what came in was changed: %s, not %s", show(given), show(l))
	}
}

// wantOwn writes over an answer and the room behind it, and wants what was given to stay; the answer is put back.
func wantOwn(t *testing.T, y []heap.Item, given, l []heap.Item) {
	t.Helper()
	all := y[:cap(y)]
	was := slices.Clone(all)
	for i := range all {
		all[i] = it(-12345, -54321)
	}
	wantStill(t, given, l)
	copy(all, was)
}

// wantBag wants l to be a heap, and to have just those items, each as often.
func wantBag(t *testing.T, whose string, l, items []heap.Item) {
	t.Helper()
	if !modelIsHeap(l) || heap.Check(l) != api.OK {
		t.Errorf("%s = %s is no heap (Check: %d)", whose, show(l), heap.Check(l))
	}
	if !slices.Equal(inOrder(l), inOrder(items)) {
		t.Errorf("%s = %s, not of the items %s", whose, show(l), show(items))
	}
}

// base is the list that a call works on: a heap itself; of a list that is none Of of it.
func base(l []heap.Item) heap.Heap {
	if modelIsHeap(l) {
		return l
	}
	return heap.Of(l)
}

// firstOf is the place of the first item of an ID.
func firstOf(l []heap.Item, id int) int {
	at := -1
	for i := len(l) - 1; i >= 0; i-- {
		if l[i].ID == id {
			at = i
		}
	}
	return at
}

func without(l []heap.Item, i int) []heap.Item {
	return append(slices.Clone(l[:i]), l[i+1:]...)
}

func with(l []heap.Item, i int, x heap.Item) []heap.Item {
	l = slices.Clone(l)
	l[i] = x
	return l
}

func wantLess(t *testing.T, a, b heap.Item, want bool) {
	t.Helper()
	if is := heap.Less(a, b); is != want {
		t.Errorf("Less(%s, %s) = %t", showItem(a), showItem(b), is)
	}
}

func wantCheck(t *testing.T, l []heap.Item, want api.Errno) {
	t.Helper()
	given := roomy(l)
	if e := heap.Check(given); e != want || (e == 0) != modelIsHeap(l) {
		t.Errorf("Check(%s) = %d, want %d", show(l), e, want)
	}
	wantStill(t, given, l)
}

func wantOf(t *testing.T, l []heap.Item) heap.Heap {
	t.Helper()
	given := roomy(l)
	y := heap.Of(given)
	wantBag(t, "Of("+show(l)+")", y, l)
	wantOwn(t, y, given, l)
	if again := heap.Of(slices.Clip(slices.Clone(l))); !slices.Equal(again, y) { // no room behind is nothing
		t.Errorf("Of(%s) = %s, and %s", show(l), show(y), show(again))
	}
	return y
}

func wantSorted(t *testing.T, l []heap.Item) []heap.Item {
	t.Helper()
	given := roomy(l)
	y := heap.Sorted(given)
	if !slices.Equal(y, inOrder(l)) {
		t.Errorf("Sorted(%s) = %s", show(l), show(y))
	}
	wantOwn(t, y, given, l)
	return y
}

func wantPush(t *testing.T, l []heap.Item, x heap.Item) heap.Heap {
	t.Helper()
	whose := "Push(" + show(l) + ", " + showItem(x) + ")"
	given := roomy(l)
	y := heap.Push(given, x)
	wantBag(t, whose, y, append(slices.Clone(l), x))
	wantOwn(t, y, given, l)
	if again := heap.Push(slices.Clip(base(l)), x); !slices.Equal(again, y) {
		t.Errorf("%s = %s; of Of of it %s", whose, show(y), show(again))
	}
	return y
}

func wantPop(t *testing.T, l []heap.Item) (heap.Heap, heap.Item) {
	t.Helper()
	whose := "Pop(" + show(l) + ")"
	given := roomy(l)
	y, x, is := heap.Pop(given)
	if len(l) == 0 {
		if len(y) != 0 || x != it(0, 0) || is {
			t.Errorf("%s = %s, %s, %t", whose, show(y), showItem(x), is)
		}
		wantStill(t, given, l)
		return y, x
	}
	s := inOrder(l)
	if x != s[0] || !is {
		t.Errorf("%s = %s, %s, %t, want %s", whose, show(y), showItem(x), is, showItem(s[0]))
	}
	wantBag(t, whose, y, s[1:])
	wantOwn(t, y, given, l)
	again, x2, is2 := heap.Pop(slices.Clip(base(l)))
	if !slices.Equal(again, y) || x2 != x || is2 != is {
		t.Errorf("%s = %s, %s; of Of of it %s, %s", whose, show(y), showItem(x), show(again), showItem(x2))
	}
	return y, x
}

// wantAsItIs wants l as it is, if it is a heap; else Of of it.
func wantAsItIs(t *testing.T, whose string, y heap.Heap, is bool, l []heap.Item) {
	t.Helper()
	if is || !slices.Equal(y, base(l)) {
		t.Errorf("%s = %s, %t", whose, show(y), is)
	}
	wantBag(t, whose, y, l)
}

func wantFix(t *testing.T, l []heap.Item, id, key int) heap.Heap {
	t.Helper()
	whose := "Fix(" + show(l) + ", " + strconv.Itoa(id) + ", " + strconv.Itoa(key) + ")"
	given := roomy(l)
	y, is := heap.Fix(given, id, key)
	wantStill(t, given, l)
	b := base(l)
	i := firstOf(b, id)
	if i < 0 {
		wantAsItIs(t, whose, y, is, l)
		return y
	}
	if !is {
		t.Errorf("%s: false", whose)
	}
	wantBag(t, whose, y, with(b, i, it(key, id)))
	wantOwn(t, y, given, l)
	if again, is := heap.Fix(slices.Clip(b), id, key); !is || !slices.Equal(again, y) {
		t.Errorf("%s = %s; of Of of it %s, %t", whose, show(y), show(again), is)
	}
	return y
}

func wantDrop(t *testing.T, l []heap.Item, id int) heap.Heap {
	t.Helper()
	whose := "Drop(" + show(l) + ", " + strconv.Itoa(id) + ")"
	given := roomy(l)
	y, is := heap.Drop(given, id)
	wantStill(t, given, l)
	b := base(l)
	i := firstOf(b, id)
	if i < 0 {
		wantAsItIs(t, whose, y, is, l)
		return y
	}
	if !is {
		t.Errorf("%s: false", whose)
	}
	wantBag(t, whose, y, without(b, i))
	wantOwn(t, y, given, l)
	if again, is := heap.Drop(slices.Clip(b), id); !is || !slices.Equal(again, y) {
		t.Errorf("%s = %s; of Of of it %s, %t", whose, show(y), show(again), is)
	}
	return y
}

// eachShort gives all lists of up to five items of two IDs and three keys, of which many have alike ones.
func eachShort(yield func(l heap.Heap)) {
	kinds := []heap.Item{it(0, 0), it(0, 1), it(1, 0), it(1, 1), it(2, 0), it(2, 1)}
	var longer func(l heap.Heap)
	longer = func(l heap.Heap) {
		yield(l)
		if len(l) == 5 {
			return
		}
		for _, x := range kinds {
			longer(append(slices.Clone(l), x))
		}
	}
	longer(nil)
}

// eachTurn gives all orders of the keys from 0 up to n.
func eachTurn(n int, yield func(l heap.Heap)) {
	l := up(n)
	var turn func(i int)
	turn = func(i int) {
		if i == n {
			yield(slices.Clone(l))
			return
		}
		for j := i; j < n; j++ {
			l[i], l[j] = l[j], l[i]
			turn(i + 1)
			l[i], l[j] = l[j], l[i]
		}
	}
	turn(0)
}

// anyList is one by chance: of few numbers, so that many are alike, or of far ones.
func anyList(r *rand.Rand, n int) heap.Heap {
	var l heap.Heap
	most := []int{1, 2, 5, 1000, 1 << 40}[r.Intn(5)]
	far := r.Intn(6) == 0
	for range n {
		x := it(r.Intn(most)-most/2, r.Intn(most)-most/3)
		if far {
			x = it(numbers[r.Intn(len(numbers))], numbers[r.Intn(len(numbers))])
		}
		l = append(l, x)
	}
	return l
}

// some are heaps, and lists that are none, of all kinds.
func some() []heap.Heap {
	return []heap.Heap{
		nil, {}, {it(0, 0)}, {it(-3, 8)}, {it(math.MinInt, math.MaxInt)}, {it(math.MaxInt, math.MinInt)},
		up(2), down(2), up(3), down(3), up(7), down(7), up(8), down(8), up(33), down(33), up(64), down(64),
		alike(1), alike(2), alike(3), alike(8), alike(15),
		{it(1, 5), it(1, 4), it(1, 3), it(1, 2), it(1, 1)}, {it(1, 1), it(1, 2), it(1, 3), it(1, 4), it(1, 5)},
		keyed(0, 1, 9, 2, 3, 10, 11, 4, 5, 6, 7), keyed(0, 9, 1, 10, 11, 2, 3, 12, 13, 14, 15),
		keyed(3, 1, 2), keyed(5, 3, 4, 1, 2), keyed(0, 0, 0, 1, 0, 0, 1), keyed(2, 2, 2, 1), keyed(1, 2, 2, 2, 0),
		{it(math.MaxInt, 1), it(math.MinInt, 2), it(0, 3), it(math.MinInt, -4), it(math.MaxInt, -5)},
		{it(0, math.MaxInt), it(0, math.MinInt), it(0, 0), it(0, -1)}, {it(-1, 7), it(-2, 7), it(-3, 7), it(-2, 7)},
	}
}

func TestP24_1LessByKeysFirst(t *testing.T) {
	wantLess(t, it(1, 0), it(2, 0), true)
	wantLess(t, it(2, 0), it(1, 0), false)
	wantLess(t, it(1, 9), it(2, 3), true)
	wantLess(t, it(2, 3), it(1, 9), false)
	wantLess(t, it(-2, 0), it(-1, 0), true)
	wantLess(t, it(-1, 0), it(-2, 0), false)
	wantLess(t, it(-1, 5), it(0, -5), true)
	wantLess(t, it(0, -5), it(-1, 5), false)
	wantLess(t, it(math.MinInt, 0), it(math.MaxInt, 0), true)
	wantLess(t, it(math.MaxInt, 0), it(math.MinInt, 0), false)
	wantLess(t, it(math.MinInt, math.MaxInt), it(math.MinInt+1, math.MinInt), true)
	wantLess(t, it(math.MaxInt, math.MinInt), it(math.MaxInt-1, math.MaxInt), false)
}

func TestP24_1LessByIDsWhereKeysAreTheSame(t *testing.T) {
	wantLess(t, it(7, 1), it(7, 2), true)
	wantLess(t, it(7, 2), it(7, 1), false)
	wantLess(t, it(-7, -2), it(-7, -1), true)
	wantLess(t, it(-7, -1), it(-7, -2), false)
	wantLess(t, it(0, -1), it(0, 0), true)
	wantLess(t, it(0, math.MinInt), it(0, math.MaxInt), true)
	wantLess(t, it(0, math.MaxInt), it(0, math.MinInt), false)
	wantLess(t, it(math.MinInt, math.MaxInt-1), it(math.MinInt, math.MaxInt), true)
	wantLess(t, it(math.MaxInt, math.MinInt+1), it(math.MaxInt, math.MinInt), false)
}

func TestP24_1LessOfAllNumbers(t *testing.T) {
	for _, ak := range numbers {
		for _, ai := range numbers {
			wantLess(t, it(ak, ai), it(ak, ai), false) // none is less than one that is alike
			for _, bk := range numbers {
				for _, bi := range numbers {
					a, b := it(ak, ai), it(bk, bi)
					wantLess(t, a, b, rank(a).Cmp(rank(b)) < 0)
				}
			}
		}
	}
}

func TestP24_1CheckOfFew(t *testing.T) {
	wantCheck(t, nil, 0)
	wantCheck(t, heap.Heap{}, 0)
	for _, k := range numbers {
		wantCheck(t, heap.Heap{it(k, -k)}, 0)
	}
	wantCheck(t, heap.Heap{it(1, 0), it(2, 0)}, 0)
	wantCheck(t, heap.Heap{it(2, 0), it(1, 0)}, 10)
	wantCheck(t, heap.Heap{it(1, 0), it(1, 1)}, 0)
	wantCheck(t, heap.Heap{it(1, 1), it(1, 0)}, 10)
	wantCheck(t, heap.Heap{it(1, 1), it(1, 1)}, 0)
	wantCheck(t, heap.Heap{it(-1, 0), it(-2, 9)}, 10)
	wantCheck(t, heap.Heap{it(math.MinInt, 0), it(math.MaxInt, 0)}, 0)
	wantCheck(t, heap.Heap{it(math.MaxInt, 0), it(math.MinInt, 0)}, 10)
	wantCheck(t, heap.Heap{it(0, math.MaxInt), it(0, math.MinInt)}, 10)
	wantCheck(t, keyed(1, 3, 2), 0)
	wantCheck(t, keyed(2, 1, 3), 10)
	wantCheck(t, keyed(2, 3, 1), 10)
	wantCheck(t, keyed(0, 5, 1, 6, 7, 2, 3), 0) // less than one ahead of it, but not than the one above it
	wantCheck(t, keyed(0, 1, 5, 2, 3, 4, 6), 10)
	wantCheck(t, keyed(0, 5, 1, 4, 6, 2, 3), 10)
}

// Each place from 1 on is made less than the one above it, and nothing else is out of order.
func TestP24_1CheckOfEachPlace(t *testing.T) {
	for n := 1; n <= 70; n++ {
		wantCheck(t, up(n), 0)
		wantCheck(t, alike(n), 0)
		for i := 1; i < n; i++ {
			above := (i - 1) / 2
			l := up(n)
			l[i] = it(above, above-1)
			wantCheck(t, l, 10)
			l[i] = it(above-1, n+1)
			wantCheck(t, l, 10)
			l[i] = l[above] // alike is not less
			wantCheck(t, l, 0)
			l[i] = it(above, above+1)
			wantCheck(t, l, 0)
			l = alike(n)
			l[i] = it(4, 8)
			wantCheck(t, l, 10)
			l[i] = it(3, 9)
			wantCheck(t, l, 10)
		}
	}
}

func TestP24_1CheckOfTheLastPlace(t *testing.T) {
	for n := 2; n <= 300; n++ {
		l := up(n)
		above := (n - 2) / 2
		l[n-1] = it(above, above)
		wantCheck(t, l, 0)
		l[n-1] = it(above, above-1)
		wantCheck(t, l, 10)
		wantCheck(t, l[:n-1], 0)
		wantCheck(t, append(up(n), l[n-1]), 10) // the one above that place is the same, or the next one
	}
}

func TestP24_1CheckOfAllShortLists(t *testing.T) {
	heaps, others := 0, 0
	eachShort(func(l heap.Heap) {
		if modelIsHeap(l) {
			heaps++
			wantCheck(t, l, 0)
			return
		}
		others++
		wantCheck(t, l, 10)
	})
	if heaps < 500 || others < 5000 {
		t.Errorf("%d heaps, and %d others", heaps, others)
	}
}

func TestP24_2PushOntoFew(t *testing.T) {
	for _, h := range []heap.Heap{nil, {}} {
		if y := wantPush(t, h, it(3, 4)); !slices.Equal(y, heap.Heap{it(3, 4)}) {
			t.Errorf("%s", show(y))
		}
		wantPush(t, h, it(0, 0))
	}
	one := heap.Heap{it(5, 5)}
	for _, x := range []heap.Item{it(4, 9), it(5, 4), it(5, 5), it(5, 6), it(6, 0), it(-1, 0), it(math.MinInt, math.MinInt), it(math.MaxInt, math.MaxInt)} {
		y := wantPush(t, one, x)
		want := heap.Heap{one[0], x}
		if order(x, one[0]) < 0 {
			want = heap.Heap{x, one[0]}
		}
		if !slices.Equal(y, want) {
			t.Errorf("Push(%s, %s) = %s", show(one), showItem(x), show(y))
		}
	}
}

func TestP24_2PushOfTheLeastTheGreatestAndAllBetween(t *testing.T) {
	for n := 1; n <= 20; n++ {
		h := heap.Of(down(n))
		for key := -1; key <= n; key++ {
			for id := -1; id <= n; id++ {
				wantPush(t, h, it(key, id)) // where they are the same it is there already, all of it
			}
		}
		wantPush(t, h, it(math.MinInt, math.MinInt))
		wantPush(t, h, it(math.MaxInt, math.MaxInt))
		wantPush(t, alike(n), it(4, 9))
		wantPush(t, alike(n), it(4, 8))
	}
}

func TestP24_2PushOntoAllShortLists(t *testing.T) {
	eachShort(func(l heap.Heap) {
		for _, x := range []heap.Item{it(-1, 0), it(0, 1), it(1, 0), it(1, 2), it(3, 0)} {
			wantPush(t, l, x)
		}
	})
	for _, l := range some() {
		for _, x := range []heap.Item{it(math.MinInt, 0), it(-1, -1), it(0, 0), it(4, 9), it(5, 3), it(math.MaxInt, 1)} {
			wantPush(t, l, x)
		}
	}
}

func TestP24_2PopOfNoneAndFew(t *testing.T) {
	wantPop(t, nil)
	wantPop(t, heap.Heap{})
	wantPop(t, up(3)[:0])
	for _, x := range []heap.Item{it(0, 0), it(3, 4), it(-3, -4), it(math.MinInt, math.MaxInt)} {
		if y, least := wantPop(t, heap.Heap{x}); len(y) != 0 || least != x {
			t.Errorf("%s, %s", show(y), showItem(least))
		}
	}
	for _, l := range []heap.Heap{{it(1, 1), it(2, 0)}, {it(2, 0), it(1, 1)}, {it(1, 1), it(1, 2)}, {it(1, 2), it(1, 1)}, {it(1, 1), it(1, 1)}} {
		want := slices.MinFunc(l, order)
		if y, least := wantPop(t, l); len(y) != 1 || least != want {
			t.Errorf("Pop(%s) = %s, %s", show(l), show(y), showItem(least))
		}
	}
}

func TestP24_2PopOfTheExample(t *testing.T) {
	if y, x := wantPop(t, heap.Of(keyed(3, 1, 2))); x != it(1, 1) || len(y) != 2 {
		t.Errorf("%s, %s", show(y), showItem(x))
	}
}

// popAll takes all out one behind the other, and wants them in order.
func popAll(t *testing.T, l heap.Heap) {
	t.Helper()
	want := inOrder(l)
	h := l
	for i := range want {
		var x heap.Item
		if h, x = wantPop(t, h); x != want[i] {
			t.Fatalf("the one %d of %s is %s, not %s", i, show(l), showItem(x), showItem(want[i]))
		}
	}
	if _, x, is := heap.Pop(h); is || x != it(0, 0) || len(h) != 0 {
		t.Errorf("behind all of %s there is %s, and %s", show(l), showItem(x), show(h))
	}
}

func TestP24_2PopOfAllOneBehindTheOther(t *testing.T) {
	for _, l := range some() {
		popAll(t, l)
		popAll(t, heap.Of(l))
	}
	for n := range 30 {
		popAll(t, up(n))
		popAll(t, down(n))
		popAll(t, alike(n))
	}
	eachTurn(6, func(l heap.Heap) { popAll(t, l) })
}

func TestP24_2PopOfAllShortLists(t *testing.T) {
	eachShort(func(l heap.Heap) { wantPop(t, l) })
	eachTurn(7, func(l heap.Heap) { wantPop(t, l) })
}

func TestP24_2Of(t *testing.T) {
	for _, l := range some() {
		h := wantOf(t, l)
		if again := heap.Of(h); heap.Check(again) != api.OK || !slices.Equal(inOrder(again), inOrder(l)) {
			t.Errorf("Of(Of(%s)) = %s", show(l), show(again))
		}
	}
	for n := range 70 {
		wantOf(t, up(n))
		wantOf(t, down(n))
		wantOf(t, alike(n))
	}
	eachShort(func(l heap.Heap) { wantOf(t, l) })
	eachTurn(7, func(l heap.Heap) { wantOf(t, l) })
}

func TestP24_2OfByChance(t *testing.T) {
	r := rand.New(rand.NewSource(242))
	for range 3000 {
		wantOf(t, anyList(r, r.Intn(60)))
	}
	for range 5 {
		wantOf(t, anyList(r, 5000+r.Intn(5000)))
	}
}

// One place of a heap is put out of order, from wherever it has to go to wherever it must.
func TestP24_2OfWithOnePlaceOutOfOrder(t *testing.T) {
	for n := 1; n <= 33; n++ {
		for i := range n {
			for _, key := range []int{-1, 0, n / 2, n, math.MinInt, math.MaxInt} {
				wantOf(t, with(up(n), i, it(key, i)))
			}
		}
	}
}

func TestP24_3FixToLessGreaterAndTheSame(t *testing.T) {
	for n := 1; n <= 33; n++ {
		for _, h := range []heap.Heap{up(n), heap.Of(down(n))} {
			for id := range n {
				for _, key := range []int{math.MinInt, -1, 0, id - 1, id, id + 1, n / 2, n - 1, n, math.MaxInt} {
					wantFix(t, h, id, key)
				}
			}
		}
	}
}

// At the top, in the middle, and at the last place: up to the top or not so far, down to the last one or not so far.
func TestP24_3FixAtTheTopInTheMiddleAndAtTheLastPlace(t *testing.T) {
	h := keyed(0, 10, 20, 30, 40, 50, 60)
	for _, c := range []struct{ id, key, top int }{
		{0, -5, 0}, {0, 0, 0}, {0, 9, 0}, {0, 15, 1}, {0, 25, 1}, {0, 35, 1}, {0, 99, 1},
		{1, 5, 0}, {1, -5, 1}, {1, 10, 0}, {1, 30, 0}, {1, 35, 0}, {1, 45, 0}, {1, math.MaxInt, 0},
		{2, 1, 0}, {2, math.MinInt, 2}, {2, 20, 0}, {2, 55, 0}, {2, 99, 0},
		{6, -1, 6}, {6, 15, 0}, {6, 20, 0}, {6, 21, 0}, {6, 60, 0}, {6, 99, 0}, {6, 0, 0},
	} {
		if y := wantFix(t, h, c.id, c.key); len(y) != 7 || y[0].ID != c.top || !slices.Contains(y, it(c.key, c.id)) {
			t.Errorf("Fix(%s, %d, %d) = %s", show(h), c.id, c.key, show(y))
		}
	}
}

func TestP24_3FixOfAnIDThatIsThereTwice(t *testing.T) {
	h := heap.Heap{it(0, 1), it(2, 7), it(1, 3), it(5, 2), it(4, 7), it(3, 7)}
	wantCheck(t, h, 0)
	wantBag(t, "Fix", wantFix(t, h, 7, 9), heap.Heap{it(0, 1), it(9, 7), it(1, 3), it(5, 2), it(4, 7), it(3, 7)})
	wantBag(t, "Fix", wantFix(t, h, 7, -9), heap.Heap{it(0, 1), it(-9, 7), it(1, 3), it(5, 2), it(4, 7), it(3, 7)})
	h = heap.Heap{it(0, 1), it(5, 7), it(1, 3), it(6, 2), it(5, 8), it(3, 7)} // the first one is not the least one of that ID
	wantCheck(t, h, 0)
	wantBag(t, "Fix", wantFix(t, h, 7, 4), heap.Heap{it(0, 1), it(4, 7), it(1, 3), it(6, 2), it(5, 8), it(3, 7)})
	for n := 1; n <= 15; n++ {
		for _, key := range []int{-1, 3, 4, 5} {
			wantBag(t, "Fix", wantFix(t, alike(n), 9, key), with(alike(n), 0, it(key, 9)))
		}
	}
	for i := range 20 { // two of an ID, at each two places
		for j := range i {
			l := up(20)
			l[j].ID, l[i].ID = 99, 99
			wantBag(t, "Fix", wantFix(t, l, 99, 30), with(l, j, it(30, 99)))
			wantBag(t, "Fix", wantFix(t, l, 99, -30), with(l, j, it(-30, 99)))
			wantBag(t, "Drop", wantDrop(t, l, 99), without(l, j))
		}
	}
}

func TestP24_3FixAndDropOfAnIDThatNoneHas(t *testing.T) {
	for _, l := range some() {
		for _, id := range []int{-1, 77777, math.MinInt + 5, -1 << 40} {
			if firstOf(l, id) >= 0 {
				continue
			}
			for _, key := range []int{0, -1, 5, math.MinInt, math.MaxInt} {
				wantFix(t, l, id, key)
			}
			wantDrop(t, l, id)
		}
	}
	for _, h := range []heap.Heap{nil, {}, up(3)[:0]} {
		for _, id := range []int{0, 1, -1, -77, math.MinInt} {
			if y := wantFix(t, h, id, 0); len(y) != 0 {
				t.Errorf("%s", show(y))
			}
			if y := wantDrop(t, h, id); len(y) != 0 {
				t.Errorf("%s", show(y))
			}
		}
	}
	h := keyed(5, 6, 7) // keys are no IDs
	wantFix(t, h, 5, 0)
	wantDrop(t, h, 5)
}

// Where the list is no heap, what is answered is one all the same, also where none has the ID.
func TestP24_3FixAndDropOfNoHeap(t *testing.T) {
	for _, l := range []heap.Heap{down(2), down(3), down(8), keyed(0, 5, 1, 4), keyed(1, 2, 0), {it(1, 2), it(1, 1)}, {it(2, 7), it(1, 7), it(0, 7), it(1, 7)}, {it(9, 7), it(8, 1), it(7, 7), it(6, 1), it(5, 7)}} {
		wantCheck(t, l, 10)
		for id := -1; id <= 9; id++ {
			for key := -2; key <= 10; key++ {
				wantFix(t, l, id, key)
			}
			wantDrop(t, l, id)
		}
		y, is := heap.Fix(l, 99, 3)
		z, was := heap.Drop(l, 99)
		if is || was || heap.Check(y) != api.OK || heap.Check(z) != api.OK || len(y) != len(l) || len(z) != len(l) {
			t.Errorf("of %s: %s %t, %s %t", show(l), show(y), is, show(z), was)
		}
	}
}

func TestP24_3FixAndDropOfAllShortLists(t *testing.T) {
	eachShort(func(l heap.Heap) {
		for id := range 3 {
			for key := -1; key <= 3; key++ {
				wantFix(t, l, id, key)
			}
			wantDrop(t, l, id)
		}
	})
}

func TestP24_3DropOfEachPlace(t *testing.T) {
	for n := 1; n <= 33; n++ {
		for _, h := range []heap.Heap{up(n), down(n), heap.Of(down(n)), heap.Of(keyed(slices.Repeat([]int{3, 1, 2}, n)...))} {
			for id := range len(h) {
				if y := wantDrop(t, h, id); firstOf(y, id) >= 0 || len(y) != len(h)-1 {
					t.Errorf("Drop(%s, %d) = %s", show(h), id, show(y))
				}
			}
		}
	}
	if y := wantDrop(t, heap.Heap{it(3, 4)}, 4); len(y) != 0 {
		t.Errorf("%s", show(y))
	}
	if y := wantDrop(t, heap.Heap{it(0, 0)}, 0); len(y) != 0 {
		t.Errorf("%s", show(y))
	}
}

// The last item comes to a place from which it must rise, since the one above there is of another branch.
func TestP24_3DropWhereTheLastOneRises(t *testing.T) {
	h := keyed(0, 50, 10, 60, 70, 20, 30, 80, 90, 100, 110, 25)
	wantCheck(t, h, 0)
	for _, id := range []int{3, 4, 7, 8, 9, 10} {
		wantDrop(t, h, id)
	}
	for id := range len(h) {
		wantFix(t, h, id, 25)
		wantDrop(t, h, id)
	}
}

func TestP24_3DropOfAnIDThatIsThereTwice(t *testing.T) {
	h := heap.Heap{it(0, 1), it(5, 7), it(1, 3), it(6, 2), it(5, 8), it(3, 7)}
	wantBag(t, "Drop", wantDrop(t, h, 7), heap.Heap{it(0, 1), it(1, 3), it(6, 2), it(5, 8), it(3, 7)})
	wantBag(t, "Drop", wantDrop(t, heap.Heap{it(1, 7), it(2, 7)}, 7), heap.Heap{it(2, 7)})
	for n := 1; n <= 15; n++ {
		h := alike(n)
		for k := range n {
			if h = wantDrop(t, h, 9); !slices.Equal(h, alike(n-k-1)) {
				t.Fatalf("%d of %d alike: %s", k, n, show(h))
			}
		}
		wantDrop(t, h, 9)
	}
}

func TestP24_3FixAndDropByChance(t *testing.T) {
	r := rand.New(rand.NewSource(243))
	for range 20000 {
		l := anyList(r, r.Intn(40))
		if r.Intn(3) > 0 {
			l = heap.Of(l)
		}
		id := r.Intn(6) - 3
		key := numbers[r.Intn(len(numbers))]
		if len(l) > 0 && r.Intn(5) > 0 {
			id = l[r.Intn(len(l))].ID
			key = l[r.Intn(len(l))].Key
		}
		wantFix(t, l, id, key)
		wantDrop(t, l, id)
	}
}

// poppedOut is what Pop after Pop gives.
func poppedOut(l heap.Heap) []heap.Item {
	var out []heap.Item
	for {
		rest, x, is := heap.Pop(l)
		if !is {
			return out
		}
		out = append(out, x)
		l = rest
	}
}

func TestP24_4SortedOfSome(t *testing.T) {
	if l := heap.Sorted(nil); len(l) != 0 {
		t.Errorf("%s", show(l))
	}
	for _, l := range some() {
		s := wantSorted(t, l)
		if !slices.Equal(s, poppedOut(l)) || !slices.Equal(s, wantSorted(t, heap.Of(l))) {
			t.Errorf("Sorted(%s) = %s, popped out %s", show(l), show(s), show(poppedOut(l)))
		}
	}
	for n := range 70 {
		for _, l := range []heap.Heap{up(n), down(n), alike(n)} {
			if s := wantSorted(t, l); len(s) != n || !slices.Equal(s, poppedOut(l)) {
				t.Errorf("Sorted(%s) = %s", show(l), show(s))
			}
		}
	}
}

func TestP24_4SortedOfAllShortLists(t *testing.T) {
	eachShort(func(l heap.Heap) {
		if s := wantSorted(t, l); !slices.Equal(s, poppedOut(l)) {
			t.Errorf("Sorted(%s) = %s", show(l), show(s))
		}
	})
	eachTurn(7, func(l heap.Heap) { wantSorted(t, l) })
}

func TestP24_4SortedByChance(t *testing.T) {
	r := rand.New(rand.NewSource(244))
	for range 3000 {
		l := anyList(r, r.Intn(60))
		s := wantSorted(t, l)
		for i := 1; i < len(s); i++ {
			if heap.Less(s[i], s[i-1]) {
				t.Fatalf("Sorted(%s): %s behind %s", show(l), showItem(s[i]), showItem(s[i-1]))
			}
		}
		if !slices.Equal(s, poppedOut(l)) {
			t.Fatalf("Sorted(%s) = %s", show(l), show(s))
		}
	}
	wantSorted(t, anyList(r, 30000))
}

// put puts items in one by one, or all at once.
func put(t *testing.T, items []heap.Item, oneByOne bool) heap.Heap {
	t.Helper()
	if !oneByOne {
		return wantOf(t, items)
	}
	var h heap.Heap
	for _, x := range items {
		h = wantPush(t, h, x)
	}
	return h
}

func TestP24_5WhatWasPutInComesOutByItsOrder(t *testing.T) {
	r := rand.New(rand.NewSource(245))
	for i := range 2000 {
		items := anyList(r, r.Intn(30))
		h := put(t, items, i%2 == 0)
		out := poppedOut(h)
		if !slices.Equal(out, inOrder(items)) || len(out) != len(items) {
			t.Fatalf("in %s, out %s", show(items), show(out))
		}
	}
	eachTurn(6, func(l heap.Heap) {
		if out := poppedOut(put(t, l, true)); !slices.Equal(out, up(6)) {
			t.Errorf("in %s, out %s", show(l), show(out))
		}
	})
}

// keeper holds a heap beside a plain list in order, of what should be in it.
type keeper struct {
	h    heap.Heap
	want []heap.Item
}

func (k *keeper) push(t *testing.T, x heap.Item) {
	t.Helper()
	k.h = wantPush(t, k.h, x)
	k.want = inOrder(append(k.want, x))
}

func (k *keeper) pop(t *testing.T) {
	t.Helper()
	h, x := wantPop(t, k.h)
	if len(k.want) > 0 {
		if x != k.want[0] {
			t.Fatalf("out comes %s, not %s", showItem(x), showItem(k.want[0]))
		}
		k.want = k.want[1:]
	}
	k.h = h
}

func (k *keeper) fix(t *testing.T, id, key int) {
	t.Helper()
	i := firstOf(k.h, id)
	if i >= 0 {
		k.want = inOrder(with(k.want, slices.Index(k.want, k.h[i]), it(key, id)))
	}
	k.h = wantFix(t, k.h, id, key)
}

func (k *keeper) drop(t *testing.T, id int) {
	t.Helper()
	i := firstOf(k.h, id)
	if i >= 0 {
		k.want = without(k.want, slices.Index(k.want, k.h[i]))
	}
	k.h = wantDrop(t, k.h, id)
}

// step does one thing by chance.
func (k *keeper) step(t *testing.T, r *rand.Rand, ids, keys int) {
	t.Helper()
	id, key := r.Intn(ids), r.Intn(keys)-keys/2
	switch n := r.Intn(10); {
	case n < 4:
		k.push(t, it(key, id))
	case n < 6:
		k.pop(t)
	case n < 9:
		k.fix(t, id, key)
	default:
		k.drop(t, id)
	}
}

func TestP24_5WithFixAndDropBetween(t *testing.T) {
	r := rand.New(rand.NewSource(2450))
	for range 200 {
		ids, keys := 1+r.Intn(12), 1+r.Intn(20)
		items := anyList(r, r.Intn(12))
		k := &keeper{h: put(t, items, r.Intn(2) == 0), want: inOrder(items)}
		for range 150 {
			k.step(t, r, ids, keys)
			if !slices.Equal(inOrder(k.h), k.want) {
				t.Fatalf("there are %s, not %s", show(inOrder(k.h)), show(k.want))
			}
		}
		if out := poppedOut(k.h); !slices.Equal(out, k.want) {
			t.Fatalf("out come %s, not %s", show(out), show(k.want))
		}
	}
}

// A heap from which others were made is as it was: of one and the same heap each call answers the same again.
func TestP24_5AHeapThatWasHandedInServesAgain(t *testing.T) {
	h := heap.Of(roomy(keyed(5, 3, 4, 1, 2)))
	was := slices.Clone(h)
	a := heap.Push(h, it(0, 100))
	b := heap.Push(h, it(9, 200))
	c, _, _ := heap.Pop(h)
	d, _ := heap.Fix(h, 3, 8)
	e, _ := heap.Drop(h, 3)
	s := heap.Sorted(h)
	if !slices.Equal(h, was) {
		t.Errorf("%s, not %s", show(h), show(was))
	}
	wantBag(t, "a", a, append(slices.Clone(was), it(0, 100)))
	wantBag(t, "b", b, append(slices.Clone(was), it(9, 200)))
	wantBag(t, "c", c, inOrder(was)[1:])
	wantBag(t, "d", d, with(was, firstOf(was, 3), it(8, 3)))
	wantBag(t, "e", e, without(was, firstOf(was, 3)))
	if !slices.Equal(s, inOrder(was)) {
		t.Errorf("%s", show(s))
	}
	f := heap.Push(c, it(7, 7)) // c has room behind it: what is put there is not seen in c
	wantBag(t, "c again", c, inOrder(was)[1:])
	wantBag(t, "f", f, append(inOrder(was)[1:], it(7, 7)))
}

func TestP24_5OfMany(t *testing.T) {
	const many = 200000
	l := make([]heap.Item, 0, many)
	for i := range many {
		l = append(l, it(i*7919%many, i))
	}
	h := heap.Of(l)
	if heap.Check(h) != api.OK {
		t.Fatal("no heap")
	}
	for i, x := range heap.Sorted(h) {
		if x.Key != i {
			t.Fatalf("the one %d: %s", i, showItem(x))
		}
	}
	if _, x, is := heap.Pop(l); !is || x.Key != 0 {
		t.Errorf("%s, %t", showItem(x), is)
	}
	if y, is := heap.Fix(h, 12345, -1); !is || y[0] != it(-1, 12345) || heap.Check(y) != api.OK {
		t.Errorf("%t", is)
	}
}
