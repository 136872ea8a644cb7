package paint

import (
	"maps"
	"slices"
	"strings"
)

// empty is what stands in a text for a cell that has no first byte.
const empty = '?'

// Text of a picture. One that no call gave may tell more rows than it has cells, or wider ones: they end with its cells.
func (p Picture) Text() string {
	var b strings.Builder
	rest := p.Cells
	for y := 0; y < p.H && p.W > 0 && len(rest) > 0; y++ {
		row := rest[:min(p.W, len(rest))]
		rest = rest[len(row):]
		for _, cell := range row {
			b.WriteByte(firstByte(cell))
		}
		b.WriteByte('\n')
	}
	return b.String()
}

func firstByte(cell string) byte {
	if cell == "" {
		return empty
	}
	return cell[0]
}

// Count what is shown.
func (p Picture) Count() (names []string, many []int) {
	cells := map[string]int{}
	for _, cell := range p.Cells {
		cells[cell]++
	}
	names = slices.Sorted(maps.Keys(cells))
	for _, name := range names {
		many = append(many, cells[name])
	}
	return names, many
}

// Same two?
func Same(a, b Picture) bool {
	return a.W == b.W && a.H == b.H && slices.Equal(a.Cells, b.Cells)
}
