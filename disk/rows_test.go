package disk_test

import (
	"fmt"
	"math/rand"
	"slices"
	"testing"

	"hollowtree/api"
	"hollowtree/disk"
)

// said is a write by the chapter's words.
type said struct {
	at int
	b  api.Block
}

// plain is a disk by the chapter's words: all that was ever safe lies in one row of writes, what is pending in another, and a sector's bytes are found by going through both from the beginning.
type plain struct {
	sectors     int
	safe, loose []said
	armed, gone bool
	more, done  int
}

func (p *plain) holds(i int, rows ...[]said) api.Block {
	var b api.Block
	for _, s := range slices.Concat(rows...) {
		if s.at == i {
			b = s.b
		}
	}
	return b
}

func (p *plain) there(i int) bool { return 0 <= i && i < p.sectors }

func (p *plain) read(i int) (api.Block, api.Errno) {
	switch {
	case p.gone:
		return api.Block{}, api.ErrDead
	case !p.there(i):
		return api.Block{}, api.ErrArg
	}
	return p.holds(i, p.safe, p.loose), api.OK
}

// goes counts a write or a sync; false: the power goes with it.
func (p *plain) goes() bool {
	if p.armed && p.more == 0 {
		p.gone = true
		return false
	}
	p.more--
	p.done++
	return true
}

func (p *plain) write(i int, b api.Block) api.Errno {
	switch {
	case p.gone:
		return api.ErrDead
	case !p.there(i):
		return api.ErrArg
	case !p.goes():
		return api.ErrDead
	}
	p.loose = append(p.loose, said{i, b})
	return api.OK
}

func (p *plain) sync() api.Errno {
	if p.gone || !p.goes() {
		return api.ErrDead
	}
	p.safe, p.loose = append(p.safe, p.loose...), nil
	return api.OK
}

func (p *plain) arm(n int) api.Errno {
	if p.gone {
		return api.ErrDead
	}
	p.armed, p.more = n >= 0, n
	return api.OK
}

func (p *plain) crash(keep []bool) api.Errno {
	for k, s := range p.loose {
		if k < len(keep) && keep[k] {
			p.safe = append(p.safe, s)
		}
	}
	p.loose, p.armed, p.gone = nil, false, false
	return api.OK
}

func (p *plain) pending() []int {
	var out []int
	for _, s := range p.loose {
		out = append(out, s.at)
	}
	return out
}

func (p *plain) copy() *plain {
	c := *p
	c.safe, c.loose = slices.Clone(p.safe), slices.Clone(p.loose)
	return &c
}

// call is a call that may change a disk.
type call struct {
	kind string
	n    int
	b    api.Block
	keep []bool
}

func (c call) String() string {
	switch c.kind {
	case "Write":
		return fmt.Sprintf("Write(%d, %x..)", c.n, c.b[:2])
	case "Arm":
		return fmt.Sprintf("Arm(%d)", c.n)
	case "Crash":
		return fmt.Sprintf("Crash(%v)", c.keep)
	}
	return c.kind
}

func (c call) of(d *disk.Disk) api.Errno {
	switch c.kind {
	case "Write":
		return d.Write(c.n, c.b)
	case "Sync":
		return d.Sync()
	case "Arm":
		return d.Arm(c.n)
	}
	return d.Crash(c.keep)
}

func (c call) ofPlain(p *plain) api.Errno {
	switch c.kind {
	case "Write":
		return p.write(c.n, c.b)
	case "Sync":
		return p.sync()
	case "Arm":
		return p.arm(c.n)
	}
	return p.crash(c.keep)
}

func drawnBlock(r *rand.Rand) api.Block {
	var b api.Block
	if r.Intn(10) > 0 {
		r.Read(b[:])
	}
	return b
}

func drawnKeep(r *rand.Rand, most int) []bool {
	keep := make([]bool, r.Intn(most+1))
	for k := range keep {
		keep[k] = r.Intn(2) == 0
	}
	return keep
}

// drawnWrite is a write of a sector that is there, or is just beside those that are.
func drawnWrite(r *rand.Rand, sectors int) call {
	i := r.Intn(sectors)
	if r.Intn(10) == 0 {
		i = []int{-1, sectors}[r.Intn(2)]
	}
	return call{kind: "Write", n: i, b: drawnBlock(r)}
}

// drawnCall is a write more often than all else.
func drawnCall(r *rand.Rand, sectors int) call {
	switch x := r.Intn(20); {
	case x < 2:
		return call{kind: "Sync"}
	case x < 4:
		return call{kind: "Arm", n: r.Intn(12) - 2}
	case x < 6:
		return call{kind: "Crash", keep: drawnKeep(r, 12)}
	}
	return drawnWrite(r, sectors)
}

// drawnDisk is a disk with power behind a drawn row of calls, pending writes and all.
func drawnDisk(t *testing.T, r *rand.Rand, sectors int) *disk.Disk {
	t.Helper()
	d := made(t, sectors)
	for range r.Intn(40) {
		drawnCall(r, sectors).of(d)
	}
	if d.Dead() {
		crash(t, d, drawnKeep(r, 12)...)
	}
	arm(t, d, -1)
	for range r.Intn(6) {
		write(t, d, r.Intn(sectors), drawnBlock(r))
	}
	return d
}

// image is what all sectors hold.
func image(t *testing.T, d *disk.Disk) []api.Block {
	t.Helper()
	var out []api.Block
	for i := range d.Len() {
		b, err := d.Read(i)
		if err != api.OK {
			t.Fatalf("Read(%d): %d", i, err)
		}
		out = append(out, b)
	}
	return out
}

// alike holds all that a disk tells against the plain one.
func alike(t *testing.T, d *disk.Disk, p *plain) bool {
	t.Helper()
	for i := -1; i <= p.sectors; i++ {
		want, wantErr := p.read(i)
		if got, err := d.Read(i); got != want || err != wantErr {
			t.Errorf("Read(%d): %x %d, not %x %d", i, got, err, want, wantErr)
			return false
		}
	}
	if d.Len() != p.sectors || d.Dead() != p.gone || d.Ops() != p.done || !slices.Equal(d.Pending(), p.pending()) {
		t.Errorf("Len, Dead, Ops, Pending: %d %v %d %v, not %d %v %d %v", d.Len(), d.Dead(), d.Ops(), d.Pending(), p.sectors, p.gone, p.done, p.pending())
		return false
	}
	return true
}

// P10.1 to P10.5: drawn rows of calls, held against the plain disk behind each call; by and by either is copied, and the copies go on beside.
func TestRows(t *testing.T) {
	r := rand.New(rand.NewSource(10))
	for range 400 {
		sectors := 1 + r.Intn(6)
		disks, plains := []*disk.Disk{made(t, sectors)}, []*plain{{sectors: sectors}}
		for step := range 80 {
			at := r.Intn(len(disks))
			if len(disks) < 4 && r.Intn(20) == 0 {
				disks, plains = append(disks, disks[at].Copy()), append(plains, plains[at].copy())
			}
			c := drawnCall(r, sectors)
			got, want := c.of(disks[at]), c.ofPlain(plains[at])
			if got != want {
				t.Fatalf("step %d: %v: %d, not %d", step, c, got, want)
			}
			for k := range disks {
				if !alike(t, disks[k], plains[k]) {
					t.Fatalf("step %d: disk %d behind %v of disk %d", step, k, c, at)
				}
			}
		}
	}
}

// P10.1 to P10.5: the same on the greatest disk, looked at in the end.
func TestRowsOfTheGreatest(t *testing.T) {
	r := rand.New(rand.NewSource(11))
	for range 5 {
		d, p := made(t, api.Sectors), &plain{sectors: api.Sectors}
		for range 1500 {
			c := drawnCall(r, api.Sectors)
			if c.kind == "Arm" {
				c.n *= 10
			}
			if got, want := c.of(d), c.ofPlain(p); got != want {
				t.Fatalf("%v: %d, not %d", c, got, want)
			}
		}
		alike(t, d, p)
		crash(t, d, true)
		p.crash([]bool{true})
		alike(t, d, p)
	}
}

// P10.6: what a disk holds behind a sync it holds behind any crash, and behind further crashes; also where the power goes at the next write or sync.
func TestSyncedStays(t *testing.T) {
	r := rand.New(rand.NewSource(61))
	for range 500 {
		sectors := 1 + r.Intn(5)
		d := drawnDisk(t, r, sectors)
		sync(t, d)
		want := image(t, d)
		for range 3 {
			switch r.Intn(3) {
			case 0:
				arm(t, d, 0)
				answers(t, "Write behind the last", d.Write(0, drawnBlock(r)), api.ErrDead)
			case 1:
				arm(t, d, 0)
				answers(t, "Sync behind the last", d.Sync(), api.ErrDead)
			}
			crash(t, d, drawnKeep(r, 12)...)
			if got := image(t, d); !slices.Equal(got, want) {
				t.Fatalf("behind a sync and a crash: %x, not %x", got, want)
			}
		}
	}
}

// P10.6: of a crash with all kept nothing is lost, with none kept all that is not safe; with power and without.
func TestAllOrNoneKept(t *testing.T) {
	r := rand.New(rand.NewSource(62))
	for range 500 {
		sectors := 1 + r.Intn(5)
		d := drawnDisk(t, r, sectors)
		sync(t, d)
		safe := image(t, d)
		for range r.Intn(10) {
			write(t, d, r.Intn(sectors), drawnBlock(r))
		}
		held := image(t, d)
		if r.Intn(2) == 0 {
			arm(t, d, 0)
			answers(t, "Sync behind the last", d.Sync(), api.ErrDead)
		}
		all := make([]bool, len(d.Pending())+r.Intn(3))
		for k := range all {
			all[k] = true
		}
		for _, x := range []struct {
			keep []bool
			want []api.Block
		}{{all, held}, {nil, safe}, {make([]bool, len(all)), safe}} {
			c := d.Copy()
			answers(t, "Crash", c.Crash(x.keep), api.OK)
			if got := image(t, c); !slices.Equal(got, x.want) {
				t.Fatalf("behind Crash(%v): %x, not %x", x.keep, got, x.want)
			}
		}
	}
}

// P10.6: a sector holds, behind any crash, what it held at some time since the last sync (or since the crash behind that, by which what lived on was safe).
func TestHeldAtSomeTime(t *testing.T) {
	r := rand.New(rand.NewSource(63))
	for range 500 {
		sectors := 1 + r.Intn(4)
		d := made(t, sectors)
		times := [][]api.Block{image(t, d)}
		for range 60 {
			c := drawnCall(r, sectors)
			err := c.of(d)
			if d.Dead() {
				continue
			}
			now := image(t, d)
			if c.kind == "Crash" {
				for i := range now {
					if !slices.ContainsFunc(times, func(then []api.Block) bool { return then[i] == now[i] }) {
						t.Fatalf("sector %d holds %x behind %v, as it never did", i, now[i], c)
					}
				}
			}
			if err == api.OK && (c.kind == "Crash" || c.kind == "Sync") {
				times = nil
			}
			times = append(times, now)
		}
	}
}

// P10.6: reads change nothing: of two copies one is read at every step, and both answer the same.
func TestReadsChangeNothing(t *testing.T) {
	r := rand.New(rand.NewSource(64))
	for range 500 {
		sectors := 1 + r.Intn(4)
		d := made(t, sectors)
		c := d.Copy()
		for range 50 {
			for range r.Intn(8) {
				c.Read(r.Intn(sectors+4) - 2)
			}
			x := drawnCall(r, sectors)
			if one, other := x.of(d), x.of(c); one != other {
				t.Fatalf("%v: %d, and %d where it was read", x, one, other)
			}
			if d.Dead() != c.Dead() || d.Ops() != c.Ops() || !slices.Equal(d.Pending(), c.Pending()) {
				t.Fatalf("unlike behind %v", x)
			}
		}
		crash(t, d, true, false, true)
		crash(t, c, true, false, true)
		if !slices.Equal(image(t, d), image(t, c)) {
			t.Fatalf("unlike sectors")
		}
	}
}

// P10.6: armed with n a disk does as one that is not armed does, for n writes and syncs; then it has no power, and the other one has.
func TestArmedDoesTheSame(t *testing.T) {
	r := rand.New(rand.NewSource(65))
	for range 500 {
		sectors := 1 + r.Intn(4)
		d := drawnDisk(t, r, sectors)
		c := d.Copy()
		n := r.Intn(15)
		arm(t, c, n)
		for from := d.Ops(); d.Ops() < from+n; {
			x := drawnWrite(r, sectors)
			if r.Intn(4) == 0 {
				x = call{kind: "Sync"}
			}
			if one, other := x.of(d), x.of(c); one != other {
				t.Fatalf("%v: %d, and %d of the armed one", x, one, other)
			}
			if d.Dead() || c.Dead() || d.Ops() != c.Ops() || !slices.Equal(d.Pending(), c.Pending()) || !slices.Equal(image(t, d), image(t, c)) {
				t.Fatalf("unlike behind %v", x)
			}
		}
		held := d.Copy()
		write(t, d, 0, block(7))
		answers(t, "Write behind the last", c.Write(0, block(7)), api.ErrDead)
		dead(t, c, true)
		keep := drawnKeep(r, 30)
		crash(t, held, keep...)
		crash(t, c, keep...)
		if !slices.Equal(image(t, held), image(t, c)) {
			t.Fatalf("unlike behind the crash of both")
		}
	}
}
