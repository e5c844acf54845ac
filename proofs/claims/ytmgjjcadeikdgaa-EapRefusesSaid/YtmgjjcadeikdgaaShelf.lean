import Derived.Test.YtmgjjcadeikdgaaProg
namespace Go.Proofs.Ytmgjjcadeikdgaa
end Go.Proofs.Ytmgjjcadeikdgaa
