package dice_test

import (
	"bytes"
	"math"
	"math/rand"
	"slices"
	"testing"

	"hollowtree/api"
	"hollowtree/dice"
)

// numbers are those of which Below is asked: the edges, powers of two, and some at which four bytes are let go now and then (up to one time in two).
func numbers() []int {
	return []int{1, 2, 3, 4, 5, 6, 7, 10, 255, 256, 257, 1000, 1<<16 - 1, 1 << 16, 1<<16 + 1, 1 << 24, 1 << 30, 1<<30 + 1, 858993460, 1431655765, 1431655766, 1610612737, 2147483645, 1<<31 - 2, 1<<31 - 1}
}

// once asks d one thing that is drawn, and holds the answer against the model's.
func once(t *testing.T, d *dice.Dice, m *model, asks *rand.Rand) {
	t.Helper()
	switch asks.Intn(6) {
	case 0:
		if n := asks.Intn(150); !bytes.Equal(bytesOf(t, d, n), m.bytes(n)) {
			t.Errorf("Bytes(%d)", n)
		}
	case 1:
		n := numbers()[asks.Intn(len(numbers()))]
		if got, want := below(t, d, n), m.below(n); got != want {
			t.Errorf("Below(%d): %d, not %d", n, got, want)
		}
	case 2:
		if n := asks.Intn(30); !slices.Equal(order(t, d, n), m.order(n)) {
			t.Errorf("Order(%d)", n)
		}
	case 3:
		if got := key(t, d); !bytes.Equal(got[:], m.bytes(32)) {
			t.Errorf("Key: %x", got)
		}
	case 4:
		label := labels()[asks.Intn(len(labels()))]
		if got := fork(t, d, label); !bytes.Equal(bytesOf(t, got, 40), streamOf(m.fork(label), 40)) {
			t.Errorf("Fork(%.20q)", label)
		}
	case 5:
		wrong(t, d)
	}
	took(t, d, m.taken)
}

// wrong asks d what it is not to be asked, each time with ErrArg for an answer, and zeros beside it.
func wrong(t *testing.T, d *dice.Dice) {
	t.Helper()
	for _, n := range []int{-1, math.MinInt32, math.MinInt, 1<<16 + 1, 1 << 31, math.MaxInt} {
		if b, err := d.Bytes(n); b != nil || err != api.ErrArg {
			t.Errorf("Bytes(%d): %x %d", n, b, err)
		}
	}
	for _, n := range []int{0, -1, math.MinInt32, math.MinInt, 1 << 31, 1<<31 + 1, 1 << 32, 1<<32 + 1, math.MaxInt} {
		if x, err := d.Below(n); x != 0 || err != api.ErrArg {
			t.Errorf("Below(%d): %d %d", n, x, err)
		}
	}
	for _, n := range []int{-1, math.MinInt32, math.MinInt, 1<<12 + 1, 1 << 13, 1 << 16, 1 << 32, math.MaxInt} {
		if list, err := d.Order(n); list != nil || err != api.ErrArg {
			t.Errorf("Order(%d): %v %d", n, list, err)
		}
	}
}

// P9.1, P9.2: Below of each number, draw by draw: what the chapter's words make of the stream, so many bytes taken, from 0 to n - 1.
func TestBelow(t *testing.T) {
	for _, seed := range seeds()[:8] {
		for _, n := range numbers() {
			d, m := dice.New(seed), modelOf(seed, 20000)
			for i := range 500 {
				got, want := below(t, d, n), m.below(n)
				if got != want || got < 0 || got >= n {
					t.Fatalf("Below(%d), draw %d: %d, not %d", n, i, got, want)
				}
				took(t, d, m.taken)
			}
		}
	}
}

// P9.1: where numbers are let go they are as many as the share above the greatest multiple lets one think; where n divides 2^32 there are none.
func TestLetGo(t *testing.T) {
	for _, x := range []struct{ n, least, most int }{
		{1, 0, 0}, {2, 0, 0}, {256, 0, 0}, {1 << 16, 0, 0}, {1 << 30, 0, 0},
		{1<<30 + 1, 100, 1000}, {1431655766, 200, 1500}, {1610612737, 100, 1000},
		{3, 0, 0}, {1000, 0, 0}, {1<<31 - 1, 0, 0},
	} {
		d := dice.New([]byte("let go"))
		for range 1000 {
			below(t, d, x.n)
		}
		if gone := d.Taken()/4 - 1000; d.Taken()%4 != 0 || gone < x.least || gone > x.most {
			t.Errorf("Below(%d) a thousand times: %d bytes taken", x.n, d.Taken())
		}
	}
}

// P9.1: a first number that is just the greatest multiple of n is let go; one less is not.
func TestLetGoEdge(t *testing.T) {
	at, ahead := 0, 0
	for i := range 200 {
		seed := []byte{byte(i), 'e'}
		x := modelOf(seed, 4).word()
		if x < 3<<30 {
			continue
		}
		d, n := dice.New(seed), int((x+1)/2)
		if n > 1<<31-1 {
			continue
		}
		if x%2 == 0 {
			at++
			m := modelOf(seed, 1000)
			if m.word() != multiple(n) {
				t.Fatalf("%d is not the greatest multiple of %d", x, n)
			}
			if got := below(t, d, n); got != m.below(n) || d.Taken() < 8 {
				t.Errorf("Below(%d), the first number being %d: %d, %d bytes taken", n, x, got, d.Taken())
			}
			took(t, d, m.taken)
			continue
		}
		ahead++
		if got := below(t, d, n); got != n-1 {
			t.Errorf("Below(%d), the first number being %d: %d", n, x, got)
		}
		took(t, d, 4)
	}
	if at < 10 || ahead < 10 {
		t.Errorf("only %d and %d seeds", at, ahead)
	}
}

// P9.1: each number below n comes, none far more often than the others.
func TestBelowEach(t *testing.T) {
	for _, n := range []int{1, 2, 3, 5, 7, 16} {
		d := dice.New([]byte("each"))
		count := make([]int, n)
		for range 1000 * n {
			count[below(t, d, n)]++
		}
		for x, times := range count {
			if times < 800 || times > 1200 {
				t.Errorf("Below(%d): %d came %d times of %d", n, x, times, 1000*n)
			}
		}
	}
}

// P9.1, P9.2: Order of each number against the chapter's words, with so many bytes taken; each of 0 to n - 1 once.
func TestOrder(t *testing.T) {
	sizes := []int{0, 1, 2, 3, 4, 5, 6, 7, 15, 16, 17, 63, 64, 65, 100, 1000, 1<<12 - 1, 1 << 12}
	for _, seed := range seeds()[:8] {
		d, m := dice.New(seed), modelOf(seed, 60000)
		for _, n := range sizes {
			got := order(t, d, n)
			if !slices.Equal(got, m.order(n)) {
				t.Errorf("Order(%d) of a seed of %d bytes", n, len(seed))
			}
			took(t, d, m.taken)
			slices.Sort(got)
			for i, x := range got {
				if x != i {
					t.Fatalf("Order(%d) has not each number once", n)
				}
			}
			if len(got) != n {
				t.Errorf("Order(%d): %d numbers", n, len(got))
			}
		}
	}
}

// P9.1: Order of 0 and of 1 take nothing; each more takes one number more, at least.
func TestOrderTakes(t *testing.T) {
	for n := range 50 {
		d := dice.New([]byte("takes"))
		order(t, d, n)
		took(t, d, 4*max(n-1, 0))
	}
}

// P9.1: each of the 24 orders of four comes.
func TestOrderEach(t *testing.T) {
	d := dice.New([]byte("each"))
	count := map[[4]int]int{}
	for range 2400 {
		count[[4]int(order(t, d, 4))]++
	}
	if len(count) != 24 {
		t.Errorf("%d orders", len(count))
	}
	for list, times := range count {
		if times < 50 || times > 150 {
			t.Errorf("%v came %d times of 2400", list, times)
		}
	}
}

// P9.1, P9.2: all calls one behind the other in drawn orders, against the chapter's words.
func TestMixed(t *testing.T) {
	asks := rand.New(rand.NewSource(91))
	for _, seed := range seeds() {
		d, m := dice.New(seed), modelOf(seed, 40000)
		for range 150 {
			once(t, d, m, asks)
		}
	}
}

// P9.2, R5: two Dice of one seed, asked the same by turns, tell the same; a third one of another seed changes nothing of it.
func TestSame(t *testing.T) {
	one, other, third := dice.New([]byte("same")), dice.New([]byte("same")), dice.New([]byte("third"))
	for i := range 200 {
		n := i + 1
		if !bytes.Equal(bytesOf(t, one, n), bytesOf(t, other, n)) || below(t, one, n) != below(t, other, n) || key(t, one) != key(t, other) {
			t.Errorf("turn %d: bytes, numbers or keys differ", i)
		}
		key(t, third)
		if !slices.Equal(order(t, one, n), order(t, other, n)) || one.Taken() != other.Taken() {
			t.Errorf("turn %d: orders differ, or what was taken", i)
		}
		if !bytes.Equal(bytesOf(t, fork(t, one, "f"), n), bytesOf(t, fork(t, other, "f"), n)) {
			t.Errorf("turn %d: forks differ", i)
		}
	}
	took(t, third, 200*32)
}

// R2: what is answered with an error takes nothing, and the draws behind it are the same as without it.
func TestWrongTakesNothing(t *testing.T) {
	for _, from := range []int{0, 1, 63, 64, 65, 1000} {
		d, m := dice.New([]byte("wrong")), modelOf([]byte("wrong"), 5000)
		bytesOf(t, d, from)
		m.bytes(from)
		wrong(t, d)
		took(t, d, from)
		if !slices.Equal(order(t, d, 20), m.order(20)) {
			t.Errorf("Order(20) behind errors, from %d on", from)
		}
		wrong(t, d)
		if got := key(t, d); !bytes.Equal(got[:], m.bytes(32)) {
			t.Errorf("Key behind errors, from %d on", from)
		}
	}
}

// P9.1, R2, R4: each call of nil, ahead of what is wrong with its number; Taken is 0.
func TestNil(t *testing.T) {
	var d *dice.Dice
	for _, n := range []int{-1, 0, 1, 5, 1<<12 + 1, 1<<16 + 1, 1 << 31, math.MinInt, math.MaxInt} {
		if b, err := d.Bytes(n); b != nil || err != api.ErrNil {
			t.Errorf("Bytes(%d): %x %d", n, b, err)
		}
		if x, err := d.Below(n); x != 0 || err != api.ErrNil {
			t.Errorf("Below(%d): %d %d", n, x, err)
		}
		if list, err := d.Order(n); list != nil || err != api.ErrNil {
			t.Errorf("Order(%d): %v %d", n, list, err)
		}
	}
	if k, err := d.Key(); k != (api.Key{}) || err != api.ErrNil {
		t.Errorf("Key: %x %d", k, err)
	}
	for _, label := range labels() {
		if f, err := d.Fork(label); f != nil || err != api.ErrNil {
			t.Errorf("Fork(%.20q): %v %d", label, f, err)
		}
	}
	took(t, d, 0)
}

// R3: the seed is not changed, nor the room around it, and not kept: Dice stay the same when it is changed.
func TestSeedIsNotKept(t *testing.T) {
	for _, n := range []int{0, 1, 31, 32, 33, 63, 64, 65, 1000} {
		room := drawn(n + 200)
		was := bytes.Clone(room)
		d := dice.New(room[100 : 100+n])
		m := modelOf(was[100:100+n], 1000)
		fork(t, d, "label")
		m.bytes(32)
		if !bytes.Equal(room, was) {
			t.Errorf("a seed of %d bytes is changed", n)
		}
		for i := range room {
			room[i] = 0
		}
		if got := bytesOf(t, d, 100); !bytes.Equal(got, m.bytes(100)) {
			t.Errorf("a seed of %d bytes is kept", n)
		}
	}
}

// R3: what is answered is new memory: it may be changed and appended to afterwards, and stays when more is drawn.
func TestAnswersAreNew(t *testing.T) {
	d, m := dice.New([]byte("new")), modelOf([]byte("new"), 60000)
	for _, n := range []int{0, 1, 9, 63, 64, 65, 200} {
		b, list := bytesOf(t, d, n), order(t, d, n)
		wantBytes, wantList := m.bytes(n), m.order(n)
		bytesOf(t, d, n)
		order(t, d, n)
		m.bytes(n)
		m.order(n)
		if !bytes.Equal(b, wantBytes) || !slices.Equal(list, wantList) {
			t.Errorf("%d: what was answered changes when more is drawn", n)
		}
		for i := range b {
			b[i], list[i] = 0xaa, -1
		}
		_, _ = append(b, drawn(100)...), append(list, make([]int, 100)...)
		if !bytes.Equal(bytesOf(t, d, n), m.bytes(n)) || !slices.Equal(order(t, d, n), m.order(n)) {
			t.Errorf("%d: what is drawn hangs on what was answered", n)
		}
		took(t, d, m.taken)
	}
}
