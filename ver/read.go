package ver

import (
	"pantry/api"
	"pantry/scan"
)

// readVersion takes a version that the whole text is.
func readVersion(r *scan.Reader) (api.Version, api.Errno) {
	var v api.Version
	if errno := readNumbers(r, &v); errno != api.OK {
		return api.Version{}, errno
	}
	var errno api.Errno
	if v.Pre, v.Build, errno = r.Tail(); errno != api.OK {
		return api.Version{}, errno
	}
	if !r.Ended() {
		return api.Version{}, api.ErrText
	}
	return v, api.OK
}

func readNumbers(r *scan.Reader, v *api.Version) api.Errno {
	for i, number := range [...]*int{&v.Major, &v.Minor, &v.Patch} {
		if i > 0 && !r.Take(".") {
			return api.ErrText
		}
		var errno api.Errno
		if *number, errno = r.Number(); errno != api.OK {
			return errno
		}
	}
	return api.OK
}
