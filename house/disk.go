package house

import "waybill/api"

// Disk has MaxLog places, all empty at first. Its zero value is one.
type Disk struct {
	places [api.MaxLog]string // changes that are whole stand first, perhaps one that is torn behind them
	fails  bool               // the power goes off, when left is 0
	left   int                // so many writes more
}

// Cut lets the power go off behind so many places more that are written (below 0: it stays on).
func (d *Disk) Cut(writes int) { d.fails, d.left = writes >= 0, max(writes, 0) }

// write writes a text to a place. False: the power is off, and so many bytes as are torn are there (below 0: none), never all of them.
func (d *Disk) write(place int, text string, torn int) bool {
	if d.fails && d.left == 0 {
		if torn >= 0 {
			d.places[place] = text[:min(torn, len(text)-1)]
		}
		return false
	}
	if d.fails {
		d.left--
	}
	d.places[place] = text
	return true
}
