package sha

import (
	"bytes"
	"crypto/sha256"
	"sync"
	"testing"
)

// setTables gives the variables values that Roots did not compute.
func setTables(ready bool, word uint32) {
	built = sync.Once{}
	if ready {
		built.Do(func() {})
	}
	for i := range cubes {
		cubeRoots[i] = word
	}
	for i := range squares {
		squareRoots[i] = word
	}
}

// tablesHold tells whether every entry of the variables is that word.
func tablesHold(word uint32) bool {
	for i := range cubes {
		if cubeRoots[i] != word || squareRoots[i%squares] != word {
			return false
		}
	}
	return true
}

// P4.4: what the functions give is what Roots computes, in all entries
func TestTablesAreRoots(t *testing.T) {
	setTables(false, 0)
	square, cube := Roots()
	if len(square) != squares || len(cube) != cubes {
		t.Fatal(len(square), len(cube))
	}
	for i, word := range squareTable() {
		if word != square[i] {
			t.Errorf("square root %d: %08x is not %08x", i, word, square[i])
		}
	}
	for i, word := range cubeTable() {
		if word != cube[i] {
			t.Errorf("cube root %d: %08x is not %08x", i, word, cube[i])
		}
	}
}

// hashesAreRight calls everything that hashes, and holds it against the library.
func hashesAreRight(t *testing.T) {
	t.Helper()
	message := bytes.Repeat([]byte("purser"), 50)
	once := sha256.Sum256(message)
	twice := sha256.Sum256(once[:])
	if Of(message) != once || Twice(message) != twice || !bytes.Equal(Short(message), twice[:20]) {
		t.Error("Of, Twice or Short")
	}
	s := New().Write(message[:100])
	c := s.Copy().Write(message[100:])
	if s.Len() != 100 || s.End() != sha256.Sum256(message[:100]) || c.Len() != 300 || c.End() != once {
		t.Error("New, Write, Len, End or Copy")
	}
	if New().End() != sha256.Sum256(nil) {
		t.Error("New and End")
	}
}

// P4.1, P4.2: whatever the variables hold, and whether they are built or not
func TestHashesReadNoVariable(t *testing.T) {
	defer setTables(false, 0)
	setTables(false, 0)
	hashesAreRight(t)
	if !tablesHold(0) {
		t.Error("a hash builds the tables")
	}
	unbuilt := false
	if built.Do(func() { unbuilt = true }); !unbuilt {
		t.Error("a hash builds the tables")
	}
	setTables(true, 7)
	hashesAreRight(t)
	if !tablesHold(7) {
		t.Error("a hash changes the tables")
	}
}

// P4.1: Roots reads the variables, and builds them at its first call only
func TestRootsReadsTheVariables(t *testing.T) {
	defer setTables(false, 0)
	setTables(false, 0)
	Roots()
	if squareRoots != squareTable() || cubeRoots != cubeTable() {
		t.Error("Roots does not build the tables")
	}
	squareRoots[3], cubeRoots[40] = 1, 2
	if square, cube := Roots(); square[3] != 1 || cube[40] != 2 {
		t.Error("Roots builds the tables again, or reads others")
	}
}

// P4.1: the tables are built once, whoever is first
func TestManyAtOnce(t *testing.T) {
	setTables(false, 0)
	var all sync.WaitGroup
	for range 8 {
		all.Go(func() {
			square, cube := Roots()
			if [squares]uint32(square) != squareTable() || [cubes]uint32(cube) != cubeTable() {
				t.Error("other tables")
			}
		})
	}
	all.Wait()
}
