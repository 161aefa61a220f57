package extent

// How a disk is divided.
const (
	leastSectors = 64
	superblocks  = 2
	places       = 2
)

// layout is where things stand on a disk.
type layout struct {
	half  int // how many sectors each of the snapshot's places has
	log   int // the first of the log's sectors
	slots int // how many the log has
}

// divide lets the snapshot's places have half of what the superblocks leave, rounded down for each, and the log all that is left.
func divide(sectors int) layout {
	half := (sectors - superblocks) / (2 * places)
	log := superblocks + places*half
	return layout{half, log, sectors - log}
}

// start is a place's first sector.
func (l layout) start(place byte) int { return superblocks + int(place)*l.half }

// other is the place that is not this one.
func other(place byte) byte { return places - 1 - place }
