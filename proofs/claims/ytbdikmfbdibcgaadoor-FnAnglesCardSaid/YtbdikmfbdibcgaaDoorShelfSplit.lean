import Derived.Test.YtbdikmfbdibcgaaDoorProg
namespace Go.Proofs.YtbdikmfbdibcgaaDoor
theorem no_split : True := trivial
end Go.Proofs.YtbdikmfbdibcgaaDoor
