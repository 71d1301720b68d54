package pantry_test

import (
	"fmt"

	"pantry/api"
	"pantry/pantry"
)

// The README's example.
func Example() {
	manifest := "name = \"top\"\nversion = \"0.1.0\"\n[needs]\na = \"*\"\n"
	l := []api.Release{
		{Name: "a", Version: "1.0.0", Data: "abc"},
		{Name: "a", Version: "2.0.0", Needs: []api.Need{{Name: "b", Range: "^2"}}},
		{Name: "b", Version: "1.0.0"},
	}
	lock, err, at, name := pantry.Relock(manifest, "", l, 100)
	fmt.Printf("%s%d %d %q\n", lock, err, at, name)
	again, err, at, name := pantry.Relock(manifest, lock, l, 100)
	fmt.Printf("%t %d %d %q\n", again == lock, err, at, name)
	text, err, at := pantry.Changes("", lock)
	fmt.Printf("%q %d %d\n", text, err, at)
	l[0].Data = "abd"
	lock, err, at, name = pantry.Relock(manifest, lock, l, 100)
	fmt.Printf("%q %d %d %q\n", lock, err, at, name)
	// Output:
	// format = 1
	//
	// [[package]]
	// digest = "sha256:ba7816bf8f01cfea414140de5dae2223b00361a396177a9cb410ff61f20015ad"
	// name = "a"
	// needs = []
	// version = "1.0.0"
	// 0 0 ""
	// true 0 0 ""
	// "add a 1.0.0\n" 0 0
	// "" 9 0 "a"
}
