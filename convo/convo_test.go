package convo_test

import (
	"encoding/hex"
	"fmt"
	"slices"
	"strings"
	"testing"

	"hollowtree/api"
	"hollowtree/convo"
	"hollowtree/sha"
)

const bound = 1 << 31

type body = [api.MessageSize]byte

// bodyNo is a message of which each byte hangs on its number.
func bodyNo(n uint32) body {
	var b body
	for i := range b {
		b[i] = byte(int(n)*31 + i*7 + 1)
	}
	return b
}

// textNo is a text of one of all lengths, with other bytes for each number.
func textNo(n uint32) string {
	return strings.Repeat(string([]byte{byte(n + 1), byte(n * 7), 0xff}), 16)[:1+n%48]
}

// made is a conversation with so many in Out, which end with Next less one, and with texts of the numbers in Held.
func made(next uint32, out, turn int, delivered uint32, held ...uint32) api.Convo {
	c := api.Convo{Next: next, Turn: turn, Delivered: delivered}
	for i := range out {
		seq := next - uint32(out-i)
		c.Out = append(c.Out, api.Out{Seq: seq, Body: bodyNo(seq)})
	}
	for _, seq := range held {
		c.Held = append(c.Held, api.In{Seq: seq, Text: textNo(seq)})
	}
	return c
}

// copyOf shares nothing with what it is a copy of.
func copyOf(c api.Convo) api.Convo {
	c.Out = slices.Clone(c.Out)
	c.Held = slices.Clone(c.Held)
	return c
}

// alike holds two conversations against each other, a nil list being as an empty one.
func alike(a, b api.Convo) bool {
	if len(a.Out) != len(b.Out) || len(a.Held) != len(b.Held) {
		return false
	}
	for i, o := range a.Out {
		if o.Seq != b.Out[i].Seq || o.Body != b.Out[i].Body {
			return false
		}
	}
	for i, in := range a.Held {
		if in.Seq != b.Held[i].Seq || in.Text != b.Held[i].Text {
			return false
		}
	}
	return a.Next == b.Next && a.Turn == b.Turn && a.Delivered == b.Delivered
}

// brief tells a conversation without the messages' bytes.
type brief api.Convo

func (b brief) String() string {
	var out []uint32
	for _, o := range b.Out {
		out = append(out, o.Seq)
	}
	var held []string
	for _, in := range b.Held {
		held = append(held, fmt.Sprintf("%d %q", in.Seq, in.Text))
	}
	return fmt.Sprintf("{Next %d, Out %v, Turn %d, Delivered %d, Held %v}", b.Next, out, b.Turn, b.Delivered, held)
}

// nothing tells whether a conversation is the zero one.
func nothing(c api.Convo) bool { return alike(c, api.Convo{}) }

// The calls, each of which has to answer OK.

func queued(t *testing.T, c api.Convo, b body, want uint32) api.Convo {
	t.Helper()
	c, n, err := convo.Queue(c, b)
	if n != want || err != api.OK {
		t.Fatalf("Queue: %d, %d; not %d", n, err, want)
	}
	return c
}

func told(t *testing.T, c api.Convo, want uint32) api.Convo {
	t.Helper()
	c, o, err := convo.Turn(c)
	if o.Seq != want || err != api.OK {
		t.Fatalf("Turn: %d, %d; not %d", o.Seq, err, want)
	}
	return c
}

func acked(t *testing.T, c api.Convo, n uint32, want int) api.Convo {
	t.Helper()
	c, gone, err := convo.Acked(c, n)
	if gone != want || err != api.OK {
		t.Fatalf("Acked(%d): %d, %d; not %d", n, gone, err, want)
	}
	return c
}

func taken(t *testing.T, c api.Convo, in api.In, room int, want ...string) api.Convo {
	t.Helper()
	c, list, err := convo.Take(c, in, room)
	if !slices.Equal(list, want) || err != api.OK {
		t.Fatalf("Take of %d: %q, %d; not %q", in.Seq, list, err, want)
	}
	return c
}

// P18.2 to P18.5: the chapter's examples, row by row.
func TestExamples(t *testing.T) {
	c := queued(t, api.Convo{}, bodyNo(0), 0)
	c = queued(t, c, bodyNo(1), 1)
	told(t, told(t, told(t, c, 0), 1), 0)
	c = acked(t, c, 1, 1)
	c = acked(t, c, 0, 0)
	if behind, gone, err := convo.Acked(c, 3); err != api.ErrAck || gone != 0 || !nothing(behind) {
		t.Errorf("Acked(3): %v, %d, %d", brief(behind), gone, err)
	}
	for seq, want := range []bool{0: true, 3: true, 4: false} {
		if seq != 1 && seq != 2 && convo.Wants(api.Convo{}, uint32(seq), 9) != want {
			t.Errorf("Wants(%d, 9): not %t", seq, want)
		}
	}
	if convo.Wants(api.Convo{}, 1, 1) {
		t.Error("Wants(1, 1): true")
	}
	c = taken(t, api.Convo{}, api.In{Seq: 1, Text: "b"}, 9)
	if c = taken(t, c, api.In{Seq: 0, Text: "a"}, 9, "a", "b"); c.Delivered != 2 {
		t.Errorf("Delivered: %d", c.Delivered)
	}
	b, err := convo.Put(api.Convo{})
	if !slices.Equal(b, make([]byte, 590)) || err != api.OK {
		t.Errorf("Put of the zero one: %x, %d", b, err)
	}
	b[4] = 1
	if c, err := convo.Get(b); err != api.ErrConvo || !nothing(c) {
		t.Errorf("Get of one in Out, Next 0: %v, %d", brief(c), err)
	}
}

// isKnown holds the hash of a conversation's bytes.
func isKnown(t *testing.T, c api.Convo, digits string) {
	t.Helper()
	b, err := convo.Put(c)
	if sum := sha.Sum(b); err != api.OK || hex.EncodeToString(sum[:]) != digits {
		t.Errorf("Put: %x, %d", b, err)
	}
}

// P18.2 to P18.5: a conversation as another program led it by the chapter's words.
func TestKnown(t *testing.T) {
	c := queued(t, api.Convo{}, bodyNo(0), 0)
	c = queued(t, c, bodyNo(1), 1)
	c = queued(t, c, bodyNo(2), 2)
	isKnown(t, c, "13d3709a098e8e0556e7972e451fc9450ccfe645909ffc297ae482c668b0e61e")
	c = told(t, told(t, c, 0), 1)
	isKnown(t, c, "1dad8c040dca5b05414f2f3dc67063696452a1cc9a7c16c621dd1984dc9ec930")
	long := strings.Repeat("x", 48)
	c = taken(t, c, api.In{Seq: 2, Text: "two"}, 6)
	c = taken(t, c, api.In{Seq: 1, Text: long}, 6)
	isKnown(t, c, "9e461856a46db4c83fa340e39231df92dadc1cc75ff9ab5248089c44d7c87416")
	c = acked(t, c, 1, 1)
	isKnown(t, c, "1aa977aa03c5c5d4eb0fdd1d6cf76ac367239b268aff26f2c5116ad7873cbfdc")
	c = queued(t, c, bodyNo(3), 3)
	c = queued(t, c, bodyNo(4), 4)
	isKnown(t, c, "14b20aba0490913219b3b8193b05062267b433e3e6573de8620795246e82bcb2")
	c = taken(t, c, api.In{Seq: 0, Text: "zero"}, 6, "zero", long, "two")
	isKnown(t, c, "ab02ded3d27bb87690bfa86b92e4c2d7b947fbee8ac59fed52fa491ade2e06cf")
	c = told(t, told(t, told(t, c, 2), 3), 4)
	isKnown(t, c, "8fcf0a6191cb0acc34c9b7dbca451086b6d58823af0f43bdcb36daf86a91b3ce")
	c = taken(t, c, api.In{Seq: 6, Text: "six"}, 6)
	c = taken(t, c, api.In{Seq: 4, Text: "four"}, 6)
	c = taken(t, c, api.In{Seq: 5, Text: "\x00five\x00"}, 6)
	isKnown(t, c, "b383b8907102eb8bc1969cc64d2ed653ad4036f61eb0a32ba15908a84563a533")
	c = acked(t, told(t, acked(t, c, 3, 2), 3), 5, 2)
	isKnown(t, c, "b66a680afb2459caa2325d62e3a17c389c617e96a4407cb1cbe94abf79b497b7")
	c = taken(t, c, api.In{Seq: 3, Text: "3"}, 6, "3", "four", "\x00five\x00", "six")
	isKnown(t, c, "587a660e7dbe46728f1926f9a061ed3411bdfd84235b91527f27b83ed9cdde1e")
}

// R5: what is asked twice is answered twice the same, whatever was asked meanwhile.
func TestTwice(t *testing.T) {
	c := made(7, 3, 2, 5, 6, 8)
	for range 3 {
		if d, n, err := convo.Queue(c, bodyNo(7)); n != 7 || err != api.OK || !alike(d, made(8, 4, 2, 5, 6, 8)) {
			t.Errorf("Queue: %v, %d, %d", brief(d), n, err)
		}
		if d, o, err := convo.Turn(c); o != (api.Out{Seq: 6, Body: bodyNo(6)}) || err != api.OK || !alike(d, made(7, 3, 0, 5, 6, 8)) {
			t.Errorf("Turn: %v, %v, %d", brief(d), o, err)
		}
		if d, n, err := convo.Acked(c, 6); n != 2 || err != api.OK || !alike(d, made(7, 1, 0, 5, 6, 8)) {
			t.Errorf("Acked: %v, %d, %d", brief(d), n, err)
		}
		if !convo.Wants(c, 7, 4) || convo.Wants(c, 6, 4) {
			t.Error("Wants")
		}
		d, list, err := convo.Take(c, api.In{Seq: 5, Text: "five"}, 4)
		if !slices.Equal(list, []string{"five", textNo(6)}) || err != api.OK || !alike(d, made(7, 3, 2, 7, 8)) {
			t.Errorf("Take: %v, %q, %d", brief(d), list, err)
		}
	}
}
