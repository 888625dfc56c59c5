/- Lcm of the package num and of the reference, at any slice that reads as a list. -/
import Derived.Test.YtbdjdmgohjjnaaaDoorKeep
import Derived.Test.YtbdjdmgohjjnaaaDoorRefLcm
namespace Go.Proofs.YtbdjdmgohjjnaaaDoor
open Go Go.RowKit

theorem numLcm_at (v : Value) (zs : List Int) (w : World) (hT : Tab w) (h : ListAt w v zs) (r : Int × Bool) (hr : lcmS zs = r) : Calls Tryd.prog 29 #[v] w (Pair r w) := by
  subst hr
  rcases h with ⟨rfl, rfl⟩ | ⟨b, off, n, cap, rfl, h2, h3, h4⟩
  · exact lcm_nil w
  · exact lcm_any b off n cap zs w hT h2 h3 h4
theorem refLcm_at (v : Value) (zs : List Int) (w : World) (h : ListAt w v zs) (r : Int × Bool) (hr : lcmS zs = r) : Calls Tryd.prog 30 #[v] w (Pair r w) := by
  subst hr
  rcases h with ⟨rfl, rfl⟩ | ⟨b, off, n, cap, rfl, h2, h3, h4⟩
  · exact refLcm_nil w
  · exact refLcm_any b off n cap zs w h2 h3 h4

end Go.Proofs.YtbdjdmgohjjnaaaDoor
