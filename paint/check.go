package paint

import (
	"errors"

	"leadlight/api"
	"leadlight/scene"
)

// Check pieces: what Paint and Row refuse of them, also for one who paints no row.
func Check(l []scene.Piece) error {
	for i, s := range l {
		if err := checkPiece(s); err != nil {
			return &api.Fault{At: i, Err: withoutPlace(err)}
		}
	}
	return nil
}

// checkPiece asks for the shape first, because Holds tells the rule ahead of all; behind that only the rule is left to be refused.
func checkPiece(s scene.Piece) error {
	if err := s.Shape.Check(); err != nil {
		return err
	}
	_, err := s.Shape.Holds(centre(0, 0), s.Rule)
	return err
}

// withoutPlace: a shape tells the place of a point, a picture that of a piece.
func withoutPlace(err error) error {
	var f *api.Fault
	if errors.As(err, &f) {
		return f.Err
	}
	return err
}
