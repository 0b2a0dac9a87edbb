/-
  No function of the program is the one call that the model answers by itself.
-/
import Derived.Test.YtagdapjkdjnemaaDoorEx3
import Derived.Test.YtagdapjkdjnemaaDoorProg
namespace Go.Proofs.YtagdapjkdjnemaaDoor.Ex
open Go Go.RowKit
set_option maxRecDepth 1000000 in
theorem noNG : NoNG Tryd.prog := noNG_ok (by kernel_rfl)
end Go.Proofs.YtagdapjkdjnemaaDoor.Ex
