/-
  Nothing of Go's own library is called by this program.
-/
import Derived.Test.YtdnpmajehnddkaaProg
namespace Go.Proofs.Ytdnpmajehnddkaa
end Go.Proofs.Ytdnpmajehnddkaa
