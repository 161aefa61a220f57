package convo

import "hollowtree/api"

// Queue: P18.2.
func Queue(c api.Convo, body [api.MessageSize]byte) (api.Convo, uint32, api.Errno) {
	if err := Check(c); err != api.OK {
		return api.Convo{}, 0, err
	}
	if len(c.Out) == api.MaxOut || c.Next == most {
		return api.Convo{}, 0, api.ErrFull
	}
	seq := c.Next
	c = copied(c)
	c.Out = append(c.Out, api.Out{Seq: seq, Body: body})
	c.Next++
	return c, seq, api.OK
}

// Turn: P18.2. Nobody knows what the net lost: so each message has its turn again and again.
func Turn(c api.Convo) (api.Convo, api.Out, api.Errno) {
	if err := Check(c); err != api.OK {
		return api.Convo{}, api.Out{}, err
	}
	if len(c.Out) == 0 {
		return api.Convo{}, api.Out{}, api.ErrNone
	}
	c = copied(c)
	out := c.Out[c.Turn]
	c.Turn++
	c.Turn %= len(c.Out)
	return c, out, api.OK
}

// Acked: P18.3. An ack can come late, behind a later one: it says nothing new then, and is no error.
func Acked(c api.Convo, n uint32) (api.Convo, int, api.Errno) {
	if err := Check(c); err != api.OK {
		return api.Convo{}, 0, err
	}
	if n > c.Next {
		return api.Convo{}, 0, api.ErrAck
	}
	gone := 0
	if from := acked(c); n > from {
		gone = int(n - from)
	}
	c = copied(c)
	c.Out = c.Out[gone:]
	c.Turn -= min(gone, c.Turn)
	return c, gone, api.OK
}
