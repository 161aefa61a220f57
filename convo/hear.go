package convo

import (
	"cmp"
	"slices"

	"hollowtree/api"
)

// Wants: P18.4. What comes once more, delivered or held, is not wanted: the net doubles, and the peer says it till it hears the ack.
func Wants(c api.Convo, seq uint32, room int) bool {
	if Check(c) != api.OK || seq < c.Delivered || seq >= most {
		return false
	}
	ahead := int(seq - c.Delivered)
	_, there := place(c.Held, seq)
	return ahead < min(api.MaxOut, room) && !there
}

// place is where the text of that number stands among those that are held, or would stand.
func place(held []api.In, seq uint32) (at int, there bool) {
	return slices.BinarySearchFunc(held, seq, func(in api.In, seq uint32) int { return cmp.Compare(in.Seq, seq) })
}

// Take: P18.4.
func Take(c api.Convo, in api.In, room int) (api.Convo, []string, api.Errno) {
	if err := untaken(c, in, room); err != api.OK {
		return api.Convo{}, nil, err
	}
	c = copied(c)
	at, _ := place(c.Held, in.Seq)
	c.Held = slices.Insert(c.Held, at, in)
	c, list := deliver(c)
	return c, list, api.OK
}

// untaken tells why a text is not taken.
func untaken(c api.Convo, in api.In, room int) api.Errno {
	switch {
	case Check(c) != api.OK:
		return api.ErrConvo
	case !Wants(c, in.Seq, room):
		return api.ErrSeq
	case !sized(in.Text):
		return api.ErrConvo
	}
	return api.OK
}

// deliver takes what is next out of what is held, as long as it is there. The conversation's lists are its own already.
func deliver(c api.Convo) (behind api.Convo, list []string) {
next:
	for {
		for at, in := range c.Held {
			if in.Seq == c.Delivered {
				list = append(list, in.Text)
				c.Held = slices.Delete(c.Held, at, at+1)
				c.Delivered++
				continue next
			}
		}
		return c, list
	}
}
