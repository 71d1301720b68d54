package book

import (
	"pantry/api"
	"pantry/toml"
)

func makeManifest(t *tree) (api.Manifest, api.Errno, int) {
	var m api.Manifest
	need := needOf(&m)
	t.keep(t.root(), func(n api.Node) api.Errno {
		switch n.Key {
		case "name":
			return take(n, Name, &m.Name)
		case "version":
			return take(n, isVersion, &m.Version)
		case "needs":
			if n.Kind == toml.Table {
				t.keep(n, need)
				return api.OK
			}
		}
		return api.ErrKind
	})
	if errno, at := t.check(); errno != api.OK {
		return m, errno, at
	}
	// Neither can have been taken over without a byte in it.
	if m.Name == "" || m.Version == "" {
		return m, api.ErrNone, 0
	}
	return m, api.OK, 0
}

// needOf makes what looks at a kid of a manifest's needs.
func needOf(m *api.Manifest) look {
	return func(n api.Node) api.Errno {
		need := api.Need{Name: n.Key}
		if errno := take(n, isRange, &need.Range); errno != api.OK {
			return errno
		}
		if !Name(need.Name) {
			return api.ErrText
		}
		if len(m.Needs) == maxNeeds {
			return api.ErrMany
		}
		m.Needs = append(m.Needs, need)
		return api.OK
	}
}
