package unack_test

import (
	"math"
	"math/big"
	"math/rand"
	"slices"
	"strconv"
	"testing"
	"unsafe"

	"footman/api"
	"footman/unack"
)

const (
	maxTick  = 1099511627776
	greatest = 4294967295
	mark     = 54321 // a setting's number that no queue here has
)

func pair(id, n int) api.Pair { return api.Pair{ID: uint16(id), Value: uint32(n)} }

// pairs is a list of a number and a value, a number and a value, and so on.
func pairs(numbers ...int) []api.Pair {
	var l []api.Pair
	for i := 0; i < len(numbers); i += 2 {
		l = append(l, pair(numbers[i], numbers[i+1]))
	}
	return l
}

// many are n settings that differ from each other.
func many(n int) []api.Pair {
	var l []api.Pair
	for i := range n {
		l = append(l, pair(1+i%6, 1000+i))
	}
	return l
}

func item(since int, numbers ...int) unack.Item {
	return unack.Item{Pairs: pairs(numbers...), Since: since}
}

// at is a queue of items that were sent at these ticks, each with settings of its own.
func at(ticks ...int) unack.Queue {
	var q unack.Queue
	for i, n := range ticks {
		q = append(q, item(n, 3, 100+i, 4, 200+i))
	}
	return q
}

// with is a queue of which the item at a place has other settings.
func with(q unack.Queue, place int, l []api.Pair) unack.Queue {
	q = clone(q)
	q[place].Pairs = l
	return q
}

// since is a queue of which the item at a place was sent at another tick.
func since(q unack.Queue, place, n int) unack.Queue {
	q = clone(q)
	q[place].Since = n
	return q
}

func clone(q unack.Queue) unack.Queue {
	var l unack.Queue
	for _, x := range q {
		l = append(l, unack.Item{Pairs: slices.Clone(x.Pairs), Since: x.Since})
	}
	return l
}

func alike(a, b unack.Queue) bool {
	if len(a) != len(b) {
		return false
	}
	for i := range a {
		if a[i].Since != b[i].Since || !slices.Equal(a[i].Pairs, b[i].Pairs) {
			return false
		}
	}
	return true
}

func showPairs(l []api.Pair) string {
	s := strconv.Itoa(len(l)) + "["
	for _, p := range l[:min(len(l), 9)] {
		s += " " + strconv.Itoa(int(p.ID)) + "=" + strconv.Itoa(int(p.Value))
	}
	return s + " ]"
}

func show(q unack.Queue) string {
	s := strconv.Itoa(len(q)) + "{"
	for _, x := range q[:min(len(q), 6)] {
		s += " " + strconv.Itoa(x.Since) + ": " + showPairs(x.Pairs)
	}
	return s + " }"
}

// roomyPairs is a list again, with room behind it, in which something stands.
func roomyPairs(l []api.Pair) []api.Pair {
	return append(slices.Clip(slices.Clone(l)), pair(3, 77), pair(4, 78))[:len(l)]
}

// roomy is a queue again, which has such room behind all its lists.
func roomy(q unack.Queue) unack.Queue {
	l := make(unack.Queue, 0, len(q)+2)
	for _, x := range q {
		l = append(l, unack.Item{Pairs: roomyPairs(x.Pairs), Since: x.Since})
	}
	return append(l, item(7, 3, 79), item(8, 4, 80))[:len(q)]
}

// whole is a copy of all of a queue, with what stands in the room behind its lists.
func whole(q unack.Queue) unack.Queue {
	var l unack.Queue
	for _, x := range q[:cap(q)] {
		l = append(l, unack.Item{Pairs: slices.Clone(x.Pairs[:cap(x.Pairs)]), Since: x.Since})
	}
	return l
}

// spoil writes over all of a list, and over the room behind it.
func spoil(l []api.Pair, n int) {
	for i := range l[:cap(l)] {
		l[:cap(l)][i] = pair(mark, n)
	}
}

// spoilQueue writes over all of a queue, and over the room behind its lists.
func spoilQueue(q unack.Queue) {
	for i, x := range q[:cap(q)] {
		spoil(x.Pairs, 0)
		q[:cap(q)][i] = item(-mark, mark, 0)
	}
}

// wantFresh holds that nothing stands in the spare room of an answer, and that no two of its lists share any. The answer is spoilt then.
func wantFresh(t *testing.T, what string, q unack.Queue, more ...[]api.Pair) {
	t.Helper()
	for _, x := range q[:cap(q)][len(q):] {
		if x.Since != 0 || x.Pairs != nil {
			t.Errorf("%s: in the room behind the items stands %v", what, x)
		}
	}
	lists := more
	for _, x := range q {
		lists = append(lists, x.Pairs)
	}
	for i, l := range lists {
		for _, p := range l[:cap(l)][len(l):] {
			if p != (api.Pair{}) {
				t.Errorf("%s: in the room behind the settings stands %v", what, p)
			}
		}
		spoil(l, i)
	}
	for i, l := range lists {
		for _, p := range l[:cap(l)] {
			if p != pair(mark, i) {
				t.Errorf("%s: two lists of the answer share", what)
			}
		}
	}
	spoilQueue(q)
}

// push also holds what is so of every answer: that what came in stays as it was, with what stands in its room behind; that nothing of it is kept; and that a queue that may be is one still.
func push(t *testing.T, q unack.Queue, l []api.Pair, now int) (unack.Queue, api.Errno) {
	t.Helper()
	what := "Push(" + show(q) + ", " + showPairs(l) + ", " + strconv.Itoa(now) + ")"
	cameQueue, came := roomy(q), roomyPairs(l)
	wasQueue, was := whole(cameQueue), slices.Clone(came[:cap(came)])
	wantAsItWas := func() {
		t.Helper()
		if !alike(whole(cameQueue), wasQueue) || !slices.Equal(came[:cap(came)], was) {
			t.Errorf("%s changed what came in", what)
		}
	}
	got, e := unack.Push(cameQueue, came, now)
	wantAsItWas()
	kept := clone(got)
	if e != api.OK {
		if !alike(kept, q) {
			t.Errorf("%s = %s, %d: not as it was", what, show(kept), e)
		}
		return kept, e
	}
	if unack.Check(kept) != api.OK {
		t.Errorf("%s = %s, which Check refuses", what, show(kept))
	}
	again, _ := unack.Push(cameQueue, came, now)
	wantFresh(t, what, again)
	wantAsItWas()
	spoilQueue(cameQueue)
	spoil(came, 0)
	if !alike(got, kept) {
		t.Errorf("%s changes behind the call: %s, was %s", what, show(got), show(kept))
	}
	return kept, e
}

// ack also holds what is so of every answer, as push does.
func ack(t *testing.T, q unack.Queue) (unack.Queue, []api.Pair, bool) {
	t.Helper()
	what := "Ack(" + show(q) + ")"
	came := roomy(q)
	was := whole(came)
	got, l, is := unack.Ack(came)
	kept, keptPairs := clone(got), slices.Clone(l)
	if is {
		again, more, _ := unack.Ack(came)
		wantFresh(t, what, again, more)
	}
	if !alike(whole(came), was) {
		t.Errorf("%s changed the queue: %s", what, show(came))
	}
	if unack.Check(q) == api.OK && unack.Check(kept) != api.OK {
		t.Errorf("%s = %s, which Check refuses", what, show(kept))
	}
	if is {
		spoilQueue(came)
		if !alike(got, kept) || !slices.Equal(l, keptPairs) {
			t.Errorf("%s changes behind the call", what)
		}
	}
	return kept, keptPairs, is
}

// modelCheck tells whether a queue may be, by all the faults that it has.
func modelCheck(q unack.Queue) api.Errno {
	faults := map[api.Errno]bool{api.ErrFull: len(q) >= 5}
	for i, x := range q {
		if len(x.Pairs) >= 9 {
			faults[api.ErrLong] = true
		}
		if x.Since < 0 || x.Since > maxTick {
			faults[api.ErrRange] = true
		}
		if i > 0 && x.Since < q[i-1].Since {
			faults[api.ErrOrder] = true
		}
	}
	return firstOf(faults, api.ErrFull, api.ErrLong, api.ErrRange, api.ErrOrder)
}

func firstOf(faults map[api.Errno]bool, order ...api.Errno) api.Errno {
	for _, e := range order {
		if faults[e] {
			return e
		}
	}
	return api.OK
}

func modelPush(q unack.Queue, l []api.Pair, now int) (unack.Queue, api.Errno) {
	if e := modelCheck(q); e != api.OK {
		return q, e
	}
	faults := map[api.Errno]bool{
		api.ErrLong:  len(l) >= 9,
		api.ErrRange: now < 0 || now > maxTick,
		api.ErrOrder: len(q) > 0 && now < q[max(0, len(q)-1)].Since,
		api.ErrFull:  len(q) == 4,
	}
	if e := firstOf(faults, api.ErrLong, api.ErrRange, api.ErrOrder, api.ErrFull); e != api.OK {
		return q, e
	}
	return append(clone(q), unack.Item{Pairs: l, Since: now}), api.OK
}

// modelLate reckons in numbers that have no range.
func modelLate(q unack.Queue, now, most int) bool {
	if len(q) == 0 {
		return false
	}
	above := new(big.Int).Sub(big.NewInt(int64(now)), big.NewInt(int64(q[0].Since)))
	return most >= 0 && above.Sign() >= 0 && above.Cmp(big.NewInt(int64(most))) >= 0
}

// sorted are held and all values of a setting, the least first.
func sorted(q unack.Queue, id uint16, held int) []int {
	l := []int{held}
	for _, x := range q {
		for _, p := range x.Pairs {
			if p.ID == id {
				l = append(l, int(p.Value))
			}
		}
	}
	slices.Sort(l)
	return l
}

// right are queues that may be: of none to four items, at the edges of their ticks and of how many settings they have.
func right() []unack.Queue {
	l := []unack.Queue{
		nil,
		{},
		{{}},
		{{Pairs: []api.Pair{}}, {}},
		{{}, {}, {}, {}},
		at(0), at(5), at(maxTick - 1), at(maxTick),
		at(0, 0), at(0, 1), at(5, 5), at(0, maxTick), at(maxTick, maxTick),
		at(0, 0, 0), at(1, 2, 2), at(10, 20, 30), at(0, maxTick-1, maxTick),
		at(0, 0, 0, 0), at(10, 20, 30, 40), at(0, 7, 7, maxTick), at(maxTick, maxTick, maxTick, maxTick),
	}
	for n := range 4 {
		q := at(10, 20, 30, 40)[:n+1]
		for place := range q {
			for _, some := range [][]api.Pair{nil, {}, many(1), many(7), many(8), pairs(3, 0, 3, greatest, 3, 5)} {
				l = append(l, with(q, place, some))
			}
		}
	}
	return l
}

// outside are ticks that may not be.
var outside = []int{-1, -2, -maxTick, -1 << 32, math.MinInt32, math.MinInt, math.MinInt + 1, math.MinInt + maxTick, maxTick + 1, maxTick + 2, 2 * maxTick, 1 << 62, math.MaxInt - 1, math.MaxInt}

// refused are queues of each kind that may not be.
func refused() []unack.Queue {
	l := []unack.Queue{make(unack.Queue, 5), make(unack.Queue, 6), make(unack.Queue, 100), at(1, 2, 3, 4, 5), at(5, 5, 5, 5, 5), at(5, 4, 3, 2, 1, 0), at(5, 4), at(5, 4, 6), at(5, 6, 5), at(0, 3, 2, 4), at(1, 0, 0, 0), at(0, 0, 1, 0)}
	for n := range 5 {
		q := at(10, 20, 30, 40, 50)[:n+1]
		for place := range q {
			l = append(l, with(q, place, many(9)), with(q, place, many(10)), with(q, place, many(300)))
			for _, tick := range outside {
				l = append(l, since(q, place, tick), since(with(q, place, many(9)), place, tick))
			}
		}
	}
	return l
}

func everyQueue() []unack.Queue { return slices.Concat(right(), refused()) }

func wantCheck(t *testing.T, q unack.Queue, want api.Errno) {
	t.Helper()
	came := roomy(q)
	was := whole(came)
	if e := unack.Check(came); e != want {
		t.Errorf("Check(%s) = %d, want %d", show(q), e, want)
	}
	if !alike(whole(came), was) {
		t.Errorf("Check(%s) changed the queue", show(q))
	}
}

func wantSame(t *testing.T, a, b unack.Queue, want bool) {
	t.Helper()
	one, two := roomy(a), roomy(b)
	wasOne, wasTwo := whole(one), whole(two)
	if unack.Same(one, two) != want || unack.Same(two, one) != want || unack.Same(a, b) != want || unack.Same(b, a) != want {
		t.Errorf("Same(%s, %s) is not %t", show(a), show(b), want)
	}
	if !alike(whole(one), wasOne) || !alike(whole(two), wasTwo) {
		t.Errorf("Same(%s, %s) changed a queue", show(a), show(b))
	}
}

func wantPush(t *testing.T, q unack.Queue, l []api.Pair, now int, want unack.Queue) {
	t.Helper()
	if got, e := push(t, q, l, now); !alike(got, want) || e != api.OK {
		t.Errorf("Push(%s, %s, %d) = %s, %d, want %s", show(q), showPairs(l), now, show(got), e, show(want))
	}
}

// wantRefused holds that settings are refused, and that the queue is as it was.
func wantRefused(t *testing.T, q unack.Queue, l []api.Pair, now int, want api.Errno) {
	t.Helper()
	if got, e := push(t, q, l, now); !alike(got, q) || e != want {
		t.Errorf("Push(%s, %s, %d) = %s, %d, want it as it was, and %d", show(q), showPairs(l), now, show(got), e, want)
	}
}

// wantAck holds that the first item is taken out; of none, that there is none.
func wantAck(t *testing.T, q unack.Queue) {
	t.Helper()
	rest, first := q, []api.Pair(nil)
	if len(q) > 0 {
		rest, first = q[1:], q[0].Pairs
	}
	got, l, is := ack(t, q)
	if !alike(got, rest) || !slices.Equal(l, first) || is != (len(q) > 0) {
		t.Errorf("Ack(%s) = %s, %s, %t", show(q), show(got), showPairs(l), is)
	}
}

func wantLate(t *testing.T, q unack.Queue, now, most int, want bool) {
	t.Helper()
	came := roomy(q)
	was := whole(came)
	if is := unack.Late(came, now, most); is != want {
		t.Errorf("Late(%s, %d, %d) = %t, want %t", show(q), now, most, is, want)
	}
	if !alike(whole(came), was) {
		t.Errorf("Late(%s, %d, %d) changed the queue", show(q), now, most)
	}
}

// wantValues holds the least and the greatest value of a setting.
func wantValues(t *testing.T, q unack.Queue, id uint16, held, least, most int) {
	t.Helper()
	came := roomy(q)
	was := whole(came)
	if n := unack.Least(came, id, held); n != least {
		t.Errorf("Least(%s, %d, %d) = %d, want %d", show(q), id, held, n, least)
	}
	if n := unack.Greatest(came, id, held); n != most {
		t.Errorf("Greatest(%s, %d, %d) = %d, want %d", show(q), id, held, n, most)
	}
	if !alike(whole(came), was) {
		t.Errorf("Least or Greatest of %s, %d, %d changed the queue", show(q), id, held)
	}
}

func TestP13_1CheckOfNothing(t *testing.T) {
	for _, q := range []unack.Queue{nil, {}} {
		if e := unack.Check(q); e != api.OK {
			t.Errorf("Check(nothing) = %d", e)
		}
	}
	wantCheck(t, nil, api.OK)
}

func TestP13_1CheckOfHowManyItems(t *testing.T) {
	if unack.Most != 4 {
		t.Errorf("Most is %d", unack.Most)
	}
	for n := range 4 {
		wantCheck(t, at(1, 2, 3, 4)[:n+1], api.OK)
		wantCheck(t, make(unack.Queue, n+1), api.OK)
	}
	for _, n := range []int{5, 6, 7, 8, 100, 1000} {
		wantCheck(t, make(unack.Queue, n), api.ErrFull)
	}
	wantCheck(t, at(1, 2, 3, 4, 5), api.ErrFull)
}

func TestP13_1CheckOfHowManySettings(t *testing.T) {
	for n := range 4 {
		q := at(10, 20, 30, 40)[:n+1]
		for place := range q {
			wantCheck(t, with(q, place, nil), api.OK)
			wantCheck(t, with(q, place, []api.Pair{}), api.OK)
			wantCheck(t, with(q, place, many(7)), api.OK)
			wantCheck(t, with(q, place, many(8)), api.OK)
			for _, more := range []int{9, 10, 16, 257, 264} {
				wantCheck(t, with(q, place, many(more)), api.ErrLong)
			}
		}
	}
	full := at(1, 2, 3, 4)
	for place := range full {
		full[place].Pairs = many(8) // 32 in all
	}
	wantCheck(t, full, api.OK)
}

func TestP13_1CheckOfTicks(t *testing.T) {
	for _, n := range outside {
		wantCheck(t, at(n), api.ErrRange)
		wantCheck(t, at(n, 30), api.ErrRange)
		wantCheck(t, at(10, n), api.ErrRange)
		wantCheck(t, at(10, n, 30), api.ErrRange)
		wantCheck(t, at(10, 20, 30, n), api.ErrRange)
		wantCheck(t, at(n, n, n, n), api.ErrRange)
	}
	for _, n := range []int{0, 1, maxTick - 1, maxTick} {
		wantCheck(t, at(n), api.OK)
		wantCheck(t, at(0, n), api.OK)
		wantCheck(t, at(n, maxTick), api.OK)
		wantCheck(t, at(0, n, maxTick), api.OK)
		wantCheck(t, at(n, n, n, n), api.OK)
	}
	wantCheck(t, at(-1), api.ErrRange)
	wantCheck(t, at(1099511627776), api.OK)
	wantCheck(t, at(1099511627777), api.ErrRange)
}

func TestP13_1CheckOfTheOrder(t *testing.T) {
	for _, n := range []int{1, 2, 5, 1 << 31, 1 << 32, maxTick - 1, maxTick} {
		wantCheck(t, at(n, n), api.OK)
		wantCheck(t, at(n-1, n), api.OK)
		wantCheck(t, at(n, n-1), api.ErrOrder)
		wantCheck(t, at(n, 0), api.ErrOrder)
		wantCheck(t, at(0, n, n, maxTick), api.OK)
		wantCheck(t, at(0, n, n-1, maxTick), api.ErrOrder)
		wantCheck(t, at(n, n-1, maxTick), api.ErrOrder)
		wantCheck(t, at(0, 0, n, n-1), api.ErrOrder)
		wantCheck(t, at(n, n, n, n-1), api.ErrOrder)
		wantCheck(t, at(n, n-1, n, n), api.ErrOrder)
	}
	wantCheck(t, at(5, 6, 5, 6), api.ErrOrder)
	wantCheck(t, at(5, 3, 4), api.ErrOrder) // each one behind the fault stands right
}

func TestP13_1CheckOfTwoFaultsInOneItem(t *testing.T) {
	nine := many(9)
	for place := 1; place < 4; place++ {
		q := at(10, 20, 30, 40)
		wantCheck(t, since(with(q, place, nine), place, -1), api.ErrLong)
		wantCheck(t, since(with(q, place, nine), place, maxTick+1), api.ErrLong)
		wantCheck(t, since(with(q, place, nine), place, 9), api.ErrLong)
		wantCheck(t, since(q, place, -1), api.ErrRange) // below the one ahead, too
		five := at(10, 20, 30, 40, 50)
		wantCheck(t, with(five, place, nine), api.ErrFull)
		wantCheck(t, since(five, place, -1), api.ErrFull)
		wantCheck(t, since(five, place, maxTick+1), api.ErrFull)
		wantCheck(t, since(five, place, 9), api.ErrFull)
	}
	wantCheck(t, since(with(at(10, 20), 0, nine), 0, -1), api.ErrLong)
}

func TestP13_1CheckOfTwoFaultsInTwoItems(t *testing.T) {
	nine := many(9)
	for one := range 4 {
		for two := range 4 {
			if one == two {
				continue
			}
			q := at(10, 20, 30, 40)
			wantCheck(t, since(with(q, one, nine), two, -1), api.ErrLong)
			wantCheck(t, since(with(q, one, nine), two, maxTick+1), api.ErrLong)
			if two > 0 {
				wantCheck(t, since(with(q, one, nine), two, q[two-1].Since-1), api.ErrLong)
			}
		}
	}
	wantCheck(t, at(-1, 5, 4), api.ErrRange)
	wantCheck(t, at(5, 4, maxTick+1), api.ErrRange)
	wantCheck(t, at(5, 4, 6, -1), api.ErrRange)
	wantCheck(t, at(1, 2, 3, 4, 3), api.ErrFull)
	wantCheck(t, with(at(5, 4, 3, 2, -1), 2, nine), api.ErrFull)
}

// Each item with each fault, or with none.
func TestP13_1CheckAgainstTheModel(t *testing.T) {
	var faulty func(ahead unack.Queue)
	faulty = func(ahead unack.Queue) {
		wantCheck(t, ahead, modelCheck(ahead))
		if len(ahead) == 4 {
			return
		}
		last := 10
		if len(ahead) > 0 {
			last = ahead[len(ahead)-1].Since
		}
		for _, x := range []unack.Item{
			item(last, 3, 5), item(last+1, 3, 5), item(last-1, 3, 5), item(-1, 3, 5), item(0), item(maxTick), item(maxTick+1, 3, 5),
			{Pairs: many(9), Since: last}, {Pairs: many(9), Since: last - 1}, {Pairs: many(9), Since: -1},
		} {
			faulty(append(clone(ahead), x))
		}
	}
	faulty(nil)
	for _, q := range right() {
		wantCheck(t, q, api.OK)
	}
	for _, q := range refused() {
		if want := modelCheck(q); want != api.OK {
			wantCheck(t, q, want)
		} else {
			t.Errorf("%s may be", show(q))
		}
	}
}

func TestP13_1SameOfNoneAndEmpty(t *testing.T) {
	wantSame(t, nil, nil, true)
	wantSame(t, nil, unack.Queue{}, true)
	wantSame(t, unack.Queue{}, unack.Queue{}, true)
	wantSame(t, unack.Queue{{Since: 5}}, unack.Queue{{Pairs: []api.Pair{}, Since: 5}}, true)
	wantSame(t, nil, unack.Queue{{}}, false)
	wantSame(t, unack.Queue{}, unack.Queue{{Pairs: []api.Pair{}}}, false)
	wantSame(t, unack.Queue{{}}, unack.Queue{{}, {}}, false)
}

func TestP13_1SameOfQueuesAndThemselves(t *testing.T) {
	for _, q := range everyQueue() {
		wantSame(t, q, q, true)
		wantSame(t, q, clone(q), true)
	}
}

func TestP13_1SameWithOneItemMoreOrFewer(t *testing.T) {
	for _, q := range everyQueue() {
		wantSame(t, q, append(clone(q), unack.Item{}), false)
		wantSame(t, q, append(clone(q), item(maxTick, 3, 5)), false)
		wantSame(t, q, slices.Concat(unack.Queue{{}}, q), false)
		for place := range q {
			wantSame(t, q, slices.Delete(clone(q), place, place+1), false)
			wantSame(t, q, slices.Insert(clone(q), place, q[place]), false)
		}
	}
}

func TestP13_1SameWithOneDifference(t *testing.T) {
	for _, q := range []unack.Queue{at(10), at(10, 20), at(10, 20, 30), at(10, 20, 30, 40), at(5, 4, 3), at(1, 2, 3, 4, 5), at(math.MinInt, math.MaxInt)} {
		for place, x := range q {
			for _, n := range []int{x.Since + 1, x.Since - 1, x.Since ^ 1<<32, x.Since ^ math.MinInt, 0, -1} {
				wantSame(t, q, since(q, place, n), false)
			}
			for i, p := range x.Pairs {
				wantSame(t, q, with(q, place, slices.Delete(slices.Clone(x.Pairs), i, i+1)), false)
				wantSame(t, q, with(q, place, slices.Insert(slices.Clone(x.Pairs), i, p)), false)
				for _, other := range []api.Pair{{ID: p.ID + 1, Value: p.Value}, {ID: p.ID ^ 256, Value: p.Value}, {ID: p.ID, Value: p.Value + 1}, {ID: p.ID, Value: p.Value ^ 1<<31}} {
					l := slices.Clone(x.Pairs)
					l[i] = other
					wantSame(t, q, with(q, place, l), false)
				}
			}
			wantSame(t, q, with(q, place, append(slices.Clone(x.Pairs), api.Pair{})), false)
			wantSame(t, q, with(q, place, nil), false)
		}
	}
}

func TestP13_1SameInAnotherOrder(t *testing.T) {
	wantSame(t, unack.Queue{item(5, 3, 1, 4, 2)}, unack.Queue{item(5, 4, 2, 3, 1)}, false)
	wantSame(t, unack.Queue{item(5, 3, 1, 3, 2)}, unack.Queue{item(5, 3, 2, 3, 1)}, false)
	wantSame(t, unack.Queue{item(5, 3, 1), item(5, 4, 2)}, unack.Queue{item(5, 4, 2), item(5, 3, 1)}, false)
	wantSame(t, at(5, 6), unack.Queue{at(5, 6)[1], at(5, 6)[0]}, false)
	wantSame(t, unack.Queue{item(5, 3, 1), item(5, 4, 2)}, unack.Queue{item(5, 3, 1, 4, 2), item(5)}, false)
	wantSame(t, unack.Queue{item(5, 3, 1), item(5)}, unack.Queue{item(5), item(5, 3, 1)}, false)
}

func TestP13_1SameOfManyAgainstTheModel(t *testing.T) {
	l := right()
	for _, a := range l {
		for _, b := range l {
			wantSame(t, a, b, alike(a, b))
		}
	}
}

func TestP13_2Example(t *testing.T) {
	q, e := unack.Push(nil, []api.Pair{{ID: 3, Value: 5}}, 7)
	if len(q) != 1 || q[0].Since != 7 || !slices.Equal(q[0].Pairs, pairs(3, 5)) || e != api.OK {
		t.Fatalf("Push(nothing, 3 = 5, 7) = %v, %d", q, e)
	}
	q, l, is := unack.Ack(q)
	if len(q) != 0 || !slices.Equal(l, pairs(3, 5)) || !is {
		t.Errorf("Ack = %v, %v, %t", q, l, is)
	}
	q, l, is = unack.Ack(q)
	if len(q) != 0 || len(l) != 0 || is {
		t.Errorf("Ack again = %v, %v, %t", q, l, is)
	}
}

// someLists are lists of settings that may be pushed.
func someLists() [][]api.Pair {
	return [][]api.Pair{nil, {}, many(1), many(2), many(7), many(8), pairs(0, 0), pairs(65535, greatest), pairs(3, 5, 3, 5, 3, 6)}
}

func TestP13_2PushOntoNothing(t *testing.T) {
	for _, q := range []unack.Queue{nil, {}} {
		for _, l := range someLists() {
			for _, now := range []int{0, 1, 7, 1 << 32, maxTick - 1, maxTick} {
				wantPush(t, q, l, now, unack.Queue{{Pairs: l, Since: now}})
				if got, e := unack.Push(q, l, now); !alike(got, unack.Queue{{Pairs: l, Since: now}}) || e != api.OK {
					t.Errorf("Push(nothing, %s, %d) = %s, %d", showPairs(l), now, show(got), e)
				}
			}
			for _, now := range outside {
				wantRefused(t, q, l, now, api.ErrRange)
			}
		}
		for _, now := range append([]int{0, 7, maxTick}, outside...) {
			wantRefused(t, q, many(9), now, api.ErrLong)
			wantRefused(t, q, many(300), now, api.ErrLong)
		}
	}
}

func TestP13_2PushOntoOneToThreeItems(t *testing.T) {
	for _, ticks := range [][]int{{10}, {10, 20}, {10, 20, 30}, {10, 10, 10}, {0}, {0, 0}, {maxTick}, {5, maxTick, maxTick}} {
		q := at(ticks...)
		last := ticks[len(ticks)-1]
		for _, l := range someLists() {
			wantPush(t, q, l, last, append(clone(q), unack.Item{Pairs: l, Since: last}))
			wantPush(t, q, l, maxTick, append(clone(q), unack.Item{Pairs: l, Since: maxTick}))
			if last < maxTick {
				wantPush(t, q, l, last+1, append(clone(q), unack.Item{Pairs: l, Since: last + 1}))
			}
			if last > 0 {
				wantRefused(t, q, l, last-1, api.ErrOrder)
				wantRefused(t, q, l, 0, api.ErrOrder)
			}
			for _, now := range outside {
				wantRefused(t, q, l, now, api.ErrRange)
			}
		}
		for _, now := range []int{last, maxTick, last - 1, -1, maxTick + 1} {
			wantRefused(t, q, many(9), now, api.ErrLong)
		}
	}
}

// It is the last one's tick that counts, not the first one's.
func TestP13_2PushHoldsTheTickAgainstTheLastItem(t *testing.T) {
	wantRefused(t, at(10, 20, 30), nil, 29, api.ErrOrder)
	wantRefused(t, at(10, 20, 30), nil, 15, api.ErrOrder)
	wantRefused(t, at(10, 30), nil, 10, api.ErrOrder)
	wantPush(t, at(10, 20, 30), nil, 30, append(at(10, 20, 30), unack.Item{Since: 30}))
}

func TestP13_2PushOntoFourItems(t *testing.T) {
	for _, q := range []unack.Queue{at(10, 20, 30, 40), at(0, 0, 0, 0), make(unack.Queue, 4), at(maxTick, maxTick, maxTick, maxTick)} {
		last := q[3].Since
		for _, l := range someLists() {
			wantRefused(t, q, l, last, api.ErrFull)
			wantRefused(t, q, l, maxTick, api.ErrFull)
			for _, now := range outside {
				wantRefused(t, q, l, now, api.ErrRange)
			}
			if last > 0 {
				wantRefused(t, q, l, last-1, api.ErrOrder)
			}
		}
		for _, now := range append([]int{last, last - 1, maxTick}, outside...) {
			wantRefused(t, q, many(9), now, api.ErrLong)
		}
	}
}

func TestP13_2PushOfTwoErrorsAtOnce(t *testing.T) {
	three, four, nine := at(10, 20, 30), at(10, 20, 30, 40), many(9)
	wantRefused(t, three, nine, -1, api.ErrLong)
	wantRefused(t, three, nine, maxTick+1, api.ErrLong)
	wantRefused(t, three, nine, 29, api.ErrLong)
	wantRefused(t, four, nine, 40, api.ErrLong)
	wantRefused(t, three, nil, -1, api.ErrRange) // below the last one's, too
	wantRefused(t, four, nil, maxTick+1, api.ErrRange)
	wantRefused(t, four, nil, -1, api.ErrRange)
	wantRefused(t, four, nil, 39, api.ErrOrder)
	wantRefused(t, four, nine, -1, api.ErrLong)
	wantRefused(t, four, nine, 39, api.ErrLong)
}

func TestP13_2PushOntoQueuesThatCheckRefuses(t *testing.T) {
	for _, q := range refused() {
		want := modelCheck(q)
		for _, l := range [][]api.Pair{nil, many(1), many(9)} {
			for _, now := range []int{-1, 0, 15, maxTick, maxTick + 1} {
				wantRefused(t, q, l, now, want)
			}
		}
	}
	wantRefused(t, at(5, 4), many(9), -1, api.ErrOrder)
	wantRefused(t, at(-1), many(9), 5, api.ErrRange)
	wantRefused(t, unack.Queue{{Pairs: many(9)}}, nil, -1, api.ErrLong)
	wantRefused(t, make(unack.Queue, 5), many(9), -1, api.ErrFull)
}

func TestP13_2PushAgainstTheModel(t *testing.T) {
	for _, q := range right() {
		ticks := []int{-1, 0, 1, 15, 29, 30, 31, 40, maxTick - 1, maxTick, maxTick + 1}
		for _, x := range q {
			ticks = append(ticks, x.Since-1, x.Since, x.Since+1)
		}
		for _, l := range append(someLists(), many(9)) {
			for _, now := range ticks {
				want, wantError := modelPush(q, l, now)
				if wantError != api.OK {
					wantRefused(t, q, l, now, wantError)
				} else {
					wantPush(t, q, l, now, want)
				}
			}
		}
	}
}

func TestP13_2AckOfNone(t *testing.T) {
	for _, q := range []unack.Queue{nil, {}} {
		rest, l, is := unack.Ack(q)
		if len(rest) != 0 || len(l) != 0 || is {
			t.Errorf("Ack(nothing) = %v, %v, %t", rest, l, is)
		}
		wantAck(t, q)
	}
}

// Of queues that Check refuses, too.
func TestP13_2AckAgainAndAgain(t *testing.T) {
	for _, q := range everyQueue() {
		left := q
		for i := range q {
			wantAck(t, left)
			next, l, is := ack(t, left)
			if !is || !slices.Equal(l, q[i].Pairs) || !alike(next, q[i+1:]) {
				t.Fatalf("Ack of %s, %d times: %s, %s, %t", show(q), i+1, show(next), showPairs(l), is)
			}
			left = next
		}
		for range 2 {
			next, l, is := ack(t, left)
			if is || len(l) != 0 || len(next) != 0 {
				t.Fatalf("Ack of %s, once more: %s, %s, %t", show(q), show(next), showPairs(l), is)
			}
			left = next
		}
	}
}

func TestP13_2AckOfItemsWithoutSettings(t *testing.T) {
	for _, l := range [][]api.Pair{nil, {}} {
		rest, first, is := ack(t, unack.Queue{{Pairs: l, Since: 5}, item(6, 3, 7)})
		if !is || len(first) != 0 || !alike(rest, unack.Queue{item(6, 3, 7)}) {
			t.Errorf("Ack = %s, %s, %t", show(rest), showPairs(first), is)
		}
	}
}

func TestP13_2LateOfNone(t *testing.T) {
	for _, now := range []int{math.MinInt, -1, 0, 1, 99, maxTick, math.MaxInt} {
		for _, most := range []int{math.MinInt, -1, 0, 1, maxTick, math.MaxInt} {
			if unack.Late(nil, now, most) || unack.Late(unack.Queue{}, now, most) {
				t.Errorf("Late(nothing, %d, %d)", now, most)
			}
			wantLate(t, nil, now, most, false)
		}
	}
}

func TestP13_2LateByOneTick(t *testing.T) {
	for _, first := range []int{0, 1, 7, 1 << 31, 1 << 32, maxTick - 1, maxTick} {
		for _, most := range []int{1, 2, 100, 1 << 31, 1 << 32, maxTick, 1 << 62} {
			wantLate(t, at(first), first+most-1, most, false)
			wantLate(t, at(first), first+most, most, true)
			wantLate(t, at(first), first+most+1, most, true)
			wantLate(t, at(first), first, most, false)
			wantLate(t, at(first), first-1, most, false)
		}
	}
}

func TestP13_2LateAtOnce(t *testing.T) {
	for _, first := range []int{0, 1, 7, maxTick} {
		wantLate(t, at(first), first, 0, true)
		wantLate(t, at(first), first+1, 0, true)
		wantLate(t, at(first), first-1, 0, false)
		wantLate(t, at(first), first, 1, false)
		wantLate(t, at(first), first+1, 1, true)
	}
}

func TestP13_2LateIsNotOfMostBelowNothing(t *testing.T) {
	for _, most := range []int{-1, -2, -maxTick, math.MinInt32, math.MinInt + 1, math.MinInt} {
		for _, now := range []int{math.MinInt, -1, 0, 6, 7, 8, 100, maxTick, math.MaxInt} {
			wantLate(t, at(7), now, most, false)
			wantLate(t, at(0), now, most, false)
		}
	}
}

func TestP13_2LateIsNotAheadOfTheFirstItem(t *testing.T) {
	for _, now := range []int{6, 5, 1, 0, -1, -2, -7, -maxTick, math.MinInt32, math.MinInt + 1, math.MinInt} {
		for _, most := range []int{-1, 0, 1, 7, 100, maxTick, math.MaxInt} {
			wantLate(t, at(7), now, most, false)
		}
	}
}

func TestP13_2LateByTheFirstItemAlone(t *testing.T) {
	behind := []unack.Queue{nil, at(7), at(8), at(100), at(maxTick), at(0), at(6), at(-1), at(math.MinInt), at(math.MaxInt), at(8, 9, 10), at(3, 2, 1, 0, -1)}
	for _, l := range behind {
		q := slices.Concat(at(7), l)
		wantLate(t, q, 9, 3, false)
		wantLate(t, q, 10, 3, true)
		wantLate(t, q, 6, 0, false)
		wantLate(t, q, 7, 0, true)
		wantLate(t, with(q, 0, many(9)), 10, 3, true)
	}
	for first := range 20 { // a first one behind which older ones stand
		q := at(first, 0, 3)
		for now := range 25 {
			wantLate(t, q, now, 5, now-first >= 5)
		}
	}
}

// No sum or difference of these may leave its range unseen.
func TestP13_2LateAtAllEdgesAgainstTheModel(t *testing.T) {
	var edges []int
	for _, n := range []int{math.MinInt, -1 << 62, -maxTick, math.MinInt32, -1 << 32, 0, 7, math.MaxInt32, 1 << 32, maxTick, 1 << 62, math.MaxInt} {
		for _, by := range []int{-2, -1, 0, 1, 2} {
			edges = append(edges, n+by) // which goes round at the ends: all of them are edges
		}
	}
	for _, now := range edges {
		for _, most := range edges {
			for _, first := range edges {
				q := at(first)
				if want := modelLate(q, now, most); unack.Late(q, now, most) != want {
					wantLate(t, q, now, most, want)
				}
			}
		}
	}
	wantLate(t, at(math.MinInt), math.MaxInt, math.MaxInt, true)
	wantLate(t, at(math.MinInt), -1, math.MaxInt, true)
	wantLate(t, at(math.MinInt), -2, math.MaxInt, false)
	wantLate(t, at(math.MinInt), math.MinInt, 0, true)
	wantLate(t, at(math.MaxInt), math.MinInt, 0, false)
	wantLate(t, at(math.MaxInt), math.MinInt, 1, false)
	wantLate(t, at(1), math.MinInt, 1, false)
	wantLate(t, at(maxTick), maxTick, math.MaxInt, false)
	wantLate(t, at(0), math.MaxInt, math.MaxInt, true)
	wantLate(t, at(1), math.MaxInt, math.MaxInt, false)
}

func TestP13_3ValuesOfNothing(t *testing.T) {
	for _, held := range []int{math.MinInt, -1, 0, 5, greatest, 1 << 32, math.MaxInt} {
		for _, id := range []uint16{0, 1, 3, 6, 7, 65535} {
			for _, q := range []unack.Queue{nil, {}, {{}}, {{Pairs: []api.Pair{}}, {}}} {
				if unack.Least(q, id, held) != held || unack.Greatest(q, id, held) != held {
					t.Errorf("values of %s, %d, %d", show(q), id, held)
				}
				wantValues(t, q, id, held, held, held)
			}
		}
	}
}

func TestP13_3ValuesOfANumberThatNoItemHas(t *testing.T) {
	q := unack.Queue{item(1, 3, 10, 4, 20), item(2, 3, 0, 6, greatest)}
	for _, id := range []uint16{0, 1, 2, 5, 7, 259, 260, 262, 65535} {
		for _, held := range []int{-1, 0, 15, greatest, math.MaxInt} {
			wantValues(t, q, id, held, held, held)
		}
	}
}

func TestP13_3ValuesOfANumberThatOneItemHas(t *testing.T) {
	for place := range 4 {
		q := with(at(1, 2, 3, 4), place, pairs(4, 7, 5, 50, 3, 8))
		wantValues(t, q, 5, 49, 49, 50)
		wantValues(t, q, 5, 50, 50, 50)
		wantValues(t, q, 5, 51, 50, 51)
	}
}

func TestP13_3ValuesOfANumberThatSeveralItemsHave(t *testing.T) {
	for _, l := range [][]int{{30, 20, 40, 10}, {10, 20, 30, 40}, {40, 30, 20, 10}, {20, 10, 40, 30}} {
		var q unack.Queue
		for i, n := range l {
			q = append(q, item(i, 1, 5, 3, n, 6, 1000))
		}
		wantValues(t, q, 3, 9, 9, 40)
		wantValues(t, q, 3, 10, 10, 40)
		wantValues(t, q, 3, 25, 10, 40)
		wantValues(t, q, 3, 40, 10, 40)
		wantValues(t, q, 3, 41, 10, 41)
	}
}

// All of them count, not the last one alone.
func TestP13_3ValuesOfANumberThatOneItemHasTwice(t *testing.T) {
	for _, x := range []unack.Item{item(1, 3, 10, 3, 30, 3, 20), item(1, 3, 30, 4, 99, 3, 10, 3, 20), item(1, 3, 20, 3, 30, 3, 10), item(1, 3, 20, 3, 10, 3, 30)} {
		for _, q := range []unack.Queue{{x}, {x, item(2, 3, 15)}, {item(0, 3, 25), x}} {
			wantValues(t, q, 3, 22, 10, 30)
			wantValues(t, q, 3, 5, 5, 30)
			wantValues(t, q, 3, 50, 10, 50)
		}
	}
}

func TestP13_3ValuesAtTheEdges(t *testing.T) {
	wantValues(t, unack.Queue{item(1, 3, 0)}, 3, 5, 0, 5)
	wantValues(t, unack.Queue{item(1, 3, 0)}, 3, 0, 0, 0)
	wantValues(t, unack.Queue{item(1, 3, 0)}, 3, -1, -1, 0)
	wantValues(t, unack.Queue{item(1, 3, greatest)}, 3, 5, 5, 4294967295)
	wantValues(t, unack.Queue{item(1, 3, greatest)}, 3, greatest, 4294967295, 4294967295)
	wantValues(t, unack.Queue{item(1, 3, greatest)}, 3, 1<<32, 4294967295, 1<<32)
	wantValues(t, unack.Queue{item(1, 3, greatest)}, 3, -1, -1, 4294967295)
	wantValues(t, unack.Queue{item(1, 3, 0), item(1, 3, greatest)}, 3, 7, 0, 4294967295)
	wantValues(t, unack.Queue{item(1, 3, 0, 3, greatest)}, 3, math.MinInt, math.MinInt, 4294967295)
	wantValues(t, unack.Queue{item(1, 3, 0, 3, greatest)}, 3, math.MaxInt, 0, math.MaxInt)
	wantValues(t, unack.Queue{item(1, 0, 8, 65535, 9)}, 0, 5, 5, 8)
	wantValues(t, unack.Queue{item(1, 0, 8, 65535, 9)}, 65535, 5, 5, 9)
}

// Of queues that Check refuses, too.
func TestP13_3ValuesOfManyAgainstTheModel(t *testing.T) {
	for _, q := range everyQueue() {
		for _, id := range []uint16{0, 1, 2, 3, 4, 5, 6, 7, 65535} {
			for _, held := range []int{math.MinInt, -1, 0, 4, 5, 101, 1003, 1100, greatest, math.MaxInt} {
				l := sorted(q, id, held)
				wantValues(t, q, id, held, l[0], l[len(l)-1])
			}
		}
	}
}

// A setting is found wherever it stands, behind what may be, too.
func TestP13_3ValuesWhereverTheyStand(t *testing.T) {
	for items := range 7 {
		for place := range items {
			for n := range 12 {
				q := make(unack.Queue, items)
				for i := range q {
					q[i] = unack.Item{Pairs: slices.Repeat(pairs(3, 50), 12), Since: -i}
				}
				q[place].Pairs[n].Value = 20
				wantValues(t, q, 3, 50, 20, 50)
				q[place].Pairs[n].Value = 80
				wantValues(t, q, 3, 50, 50, 80)
				q[place].Pairs[n] = pair(4, 30)
				wantValues(t, q, 4, 30, 30, 30)
				wantValues(t, q, 4, 31, 30, 31)
			}
		}
	}
}

// someSettings are up to eight settings that tell of the how-manieth push they are.
func someSettings(r *rand.Rand, n int) []api.Pair {
	l := pairs(3, n)
	for range r.Intn(8) {
		l = append(l, pair(r.Intn(9), r.Intn(1<<31)))
	}
	return l[r.Intn(2)*r.Intn(2):]
}

// wantMatched pushes and acknowledges in turn, by chance, and holds that what comes out is what was sent, in order.
func wantMatched(t *testing.T, r *rand.Rand, steps, pushes int) {
	t.Helper()
	var q, sent unack.Queue // sent is the model: what was pushed, and not yet taken out
	surplus, refused, now := 0, 0, 0
	for i := range steps {
		now += r.Intn(3)
		if r.Intn(10) < pushes {
			l := someSettings(r, i)
			want, wantError := modelPush(sent, l, now)
			got, e := unack.Push(q, l, now)
			if e != wantError || !alike(got, want) {
				t.Fatalf("Push(%s, %s, %d) = %s, %d, want %s, %d", show(q), showPairs(l), now, show(got), e, show(want), wantError)
			}
			if e != api.OK {
				refused++
			}
			q, sent = got, clone(want)
			spoil(l, 0) // what was pushed is not kept
		} else {
			got, l, is := unack.Ack(q)
			if is != (len(sent) > 0) || is && !slices.Equal(l, sent[0].Pairs) || !is && len(l) != 0 {
				t.Fatalf("Ack(%s) = %s, %s, %t", show(q), show(got), showPairs(l), is)
			}
			if is {
				sent = sent[1:]
			} else {
				surplus++
			}
			q = got
		}
		if !alike(q, sent) || unack.Check(q) != api.OK || !unack.Same(q, sent) {
			t.Fatalf("behind %d steps stands %s, want %s", i+1, show(q), show(sent))
		}
	}
	if steps > 100 && (surplus == 0 || refused == 0) {
		t.Errorf("%d surplus ones, %d refused in %d steps", surplus, refused, steps)
	}
}

func TestP13_4AcknowledgementsMatchWhatWasSentInOrder(t *testing.T) {
	for seed := range int64(40) {
		wantMatched(t, rand.New(rand.NewSource(seed)), 1500, 3+int(seed%5))
	}
}

func TestP13_4EachRunOfPushAndAck(t *testing.T) {
	for order := range 1 << 10 { // each bit: a push, or an acknowledgement
		var q unack.Queue
		var sent []int
		for i := range 10 {
			if order>>i&1 == 1 {
				got, e := push(t, q, pairs(3, i), i)
				if (e == api.OK) != (len(sent) < 4) {
					t.Fatalf("Push onto %s: %d", show(q), e)
				}
				if e == api.OK {
					sent = append(sent, i)
				}
				q = got
				continue
			}
			got, l, is := ack(t, q)
			if is != (len(sent) > 0) || is && !slices.Equal(l, pairs(3, sent[0])) {
				t.Fatalf("Ack(%s) = %s, %t, want %v", show(q), showPairs(l), is, sent)
			}
			if is {
				sent = sent[1:]
			}
			q = got
		}
	}
}

// A surplus acknowledgement takes nothing from what is sent behind it.
func TestP13_4ASurplusOneMatchesNothing(t *testing.T) {
	var q unack.Queue
	for i := range 200 {
		for range 1 + i%3 {
			rest, l, is := unack.Ack(q)
			if is || len(l) != 0 || len(rest) != 0 {
				t.Fatalf("Ack(%s) = %s, %s, %t", show(q), show(rest), showPairs(l), is)
			}
			q = rest
		}
		many := 1 + i%4
		for n := range many {
			next, e := unack.Push(q, pairs(3, 10*i+n), i)
			if e != api.OK {
				t.Fatal(e)
			}
			q = next
		}
		for n := range many {
			rest, l, is := unack.Ack(q)
			if !is || !slices.Equal(l, pairs(3, 10*i+n)) {
				t.Fatalf("Ack(%s) = %s, %t", show(q), showPairs(l), is)
			}
			q = rest
		}
	}
}

func TestP13_4AQueueThatIsPushedUponTwice(t *testing.T) {
	for n := range 4 {
		var q unack.Queue
		for i := range n {
			q, _ = unack.Push(q, pairs(3, i), i)
		}
		was := clone(q)
		one, _ := unack.Push(q, pairs(4, 1), 10)
		two, _ := unack.Push(q, pairs(4, 2), 20)
		if !alike(one, append(clone(was), item(10, 4, 1))) || !alike(two, append(clone(was), item(20, 4, 2))) || !alike(q, was) {
			t.Errorf("two pushes onto %s: %s, %s, and left it %s", show(was), show(one), show(two), show(q))
		}
		rest, _, _ := unack.Ack(one)
		next, _ := unack.Push(rest, pairs(4, 3), 30)
		spoilQueue(next)
		spoilQueue(rest)
		spoilQueue(two)
		if !alike(one, append(clone(was), item(10, 4, 1))) || !alike(q, was) {
			t.Errorf("%s changes with what was made of it", show(one))
		}
	}
}

// Who changes settings behind the call changes no answer, of any call.
func TestP13_4SettingsThatWerePushedAreNotKept(t *testing.T) {
	for n := range 4 {
		var q, want unack.Queue
		for i := range n + 1 {
			l := roomyPairs(pairs(3, 100+i, 4, 7))
			q, _ = unack.Push(q, l, i)
			want = append(want, item(i, 3, 100+i, 4, 7))
			spoil(l, 0)
			if !unack.Same(q, want) || !alike(q, want) {
				t.Fatalf("behind %d pushes stands %s", i+1, show(q))
			}
		}
		wantValues(t, q, 3, 50, 50, 100+n)
		wantValues(t, q, mark, 50, 50, 50)
		for i := range n + 1 {
			rest, l, is := unack.Ack(q)
			if !is || !slices.Equal(l, pairs(3, 100+i, 4, 7)) {
				t.Fatalf("Ack(%s) = %s, %t", show(q), showPairs(l), is)
			}
			spoil(l, 0) // nor do answers hang on each other
			if !alike(rest, want[i+1:]) {
				t.Fatalf("behind Ack stands %s", show(rest))
			}
			q = rest
		}
	}
}

// An answer holds nothing of what came in, not even the room behind an empty list.
func TestP13_4EmptyListsAreNotKept(t *testing.T) {
	room := many(8)
	wantElsewhere := func(what string, lists ...[]api.Pair) {
		t.Helper()
		for _, l := range lists {
			for i := range room {
				if unsafe.SliceData(l) == &room[i] {
					t.Errorf("%s holds the room that a list came with", what)
				}
			}
		}
	}
	came := unack.Queue{{Pairs: room[:0]}, {Pairs: room[3:3]}}
	q, e := unack.Push(came, room[5:5], 5)
	if e != api.OK || len(q) != 3 {
		t.Fatalf("Push = %s, %d", show(q), e)
	}
	wantElsewhere("Push", q[0].Pairs, q[1].Pairs, q[2].Pairs)
	rest, l, is := unack.Ack(came)
	if !is || len(rest) != 1 || len(l) != 0 {
		t.Fatalf("Ack = %s, %s, %t", show(rest), showPairs(l), is)
	}
	wantElsewhere("Ack", rest[0].Pairs, l)
	wantFresh(t, "Push", q)
	wantFresh(t, "Ack", rest, l)
	if !slices.Equal(room, many(8)) {
		t.Errorf("the room that lists came with: %s", showPairs(room))
	}
}
