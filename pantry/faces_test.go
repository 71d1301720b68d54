package pantry_test

import (
	"testing"

	"pantry/api"
	"pantry/book"
	"pantry/pantry"
	"pantry/plan"
	"pantry/ranges"
	"pantry/shelf"
	"pantry/solve"
	"pantry/span"
	"pantry/sum"
	"pantry/toml"
	"pantry/ver"
)

// The calls that the chapters list, with their types: the test does not build
// if one of them is wanting or has another type.
func TestFaces(t *testing.T) {
	var (
		_ func(string) string                   = sum.Sum
		_ func(string) string                   = sum.Hex
		_ func(string) (string, api.Errno, int) = sum.Bytes
		_ func(string) string                   = sum.Digest
		_ func(string) bool                     = sum.Check

		_ func(string) ([]api.Node, api.Errno, int) = toml.Parse
		_ func(string) (string, api.Errno, int)     = toml.Print

		_ func(string) (api.Version, api.Errno, int) = ver.Parse
		_ func(api.Version) string                   = ver.Text
		_ func(api.Version) bool                     = ver.Sound
		_ func(api.Version, api.Version) int         = ver.Compare
		_ func(api.Version) api.Version              = ver.Next

		_ func([]api.Span) bool                                = span.Sound
		_ func([]api.Span, api.Version) bool                   = span.Holds
		_ func([]api.Span) ([]api.Span, api.Errno)             = span.Normal
		_ func([]api.Span, []api.Span) ([]api.Span, api.Errno) = span.Meet
		_ func([]api.Span, []api.Span) ([]api.Span, api.Errno) = span.Join

		_ func(string) ([]api.Span, api.Errno, int)        = ranges.Parse
		_ func(string, api.Version) (bool, api.Errno, int) = ranges.Admits
		_ func([]api.Span) (string, api.Errno)             = ranges.Text

		_ func(string) bool                           = book.Name
		_ func(string) (api.Manifest, api.Errno, int) = book.ReadManifest
		_ func(string) ([]api.Entry, api.Errno, int)  = book.ReadLock
		_ func([]api.Entry) (string, api.Errno, int)  = book.PrintLock

		_ func([]api.Release) (api.Errno, int)    = shelf.Check
		_ func([]api.Release, string) []int       = shelf.Of
		_ func([]api.Release, string, string) int = shelf.Find

		_ func([]api.Need, []api.Release, []int) bool                          = solve.Good
		_ func([]api.Need, []api.Release, []api.Entry, int) ([]int, api.Errno) = solve.Solve

		_ func([]api.Entry, []api.Entry) (string, api.Errno, int) = plan.Plan

		_ func(string, string, []api.Release, int) (string, api.Errno, int, string) = pantry.Relock
		_ func(string, string) (string, api.Errno, int)                             = pantry.Changes
	)
}
