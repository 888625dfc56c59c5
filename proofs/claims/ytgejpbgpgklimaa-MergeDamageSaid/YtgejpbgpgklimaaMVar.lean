/- A variable of four cells that a drawn region allocates and stores. Nothing is said of the program here. -/
import Derived.Test.YtgejpbgpgklimaaMMem
import Derived.Test.YtgejpbgpgklimaaMIter
import Derived.Test.YtgejpbgpgklimaaRegion
namespace Go.Proofs.Ytgejpbgpgklimaa
open Go Go.RowKit

def VarM (W0 w : World) (u : Value) (st : Prop) (nx : Mg) : Prop :=
  ∃ X : Nat, u = .pointer (some ⟨X, 0, none⟩) ∧ W0.heap.size ≤ X ∧ (∃ o n x d, MgT 43 w X o n x d) ∧ (st → MgT 43 w X nx.on nx.num nx.next nx.data)
theorem VarM.step {W0 w w' : World} {u : Value} {st st' : Prop} {nx : Mg} (v : VarM W0 w u st nx) (h : Keep w w') (hst : st' → st) : VarM W0 w' u st' nx := by
  obtain ⟨X, rfl, hX, ⟨o, n, x, d, hm⟩, hs⟩ := v
  exact ⟨X, rfl, hX, ⟨o, n, x, d, mg_k hm h⟩, fun h' => mg_k (hs (hst h')) h⟩
theorem VarM.new {W0 w : World} {st : Prop} {nx : Mg} (h : Keep W0 w) (hst : ¬ st) : VarM W0 (w.alloc (.cells #[.bool false, .int .i64 0, .int .i64 0, .string ⟨#[]⟩] 43)) (.pointer (some ⟨w.heap.size, 0, none⟩)) st nx :=
  ⟨_, rfl, h.size, ⟨_, _, _, _, mg_new w _ _ _ _ _⟩, fun h' => absurd h' hst⟩
theorem VarM.here {W0 w : World} {X : Nat} {st : Prop} {nx : Mg} {o : Bool} {n x : Int} {d : ByteArray} (hX : W0.heap.size ≤ X) (hm : MgT 43 w X o n x d) :
    VarM W0 (w.setRow X #[.bool nx.on, .int .i64 nx.num, .int .i64 nx.next, .string nx.data]) (.pointer (some ⟨X, 0, none⟩)) st nx :=
  ⟨X, rfl, hX, ⟨_, _, _, _, mg_row hm _ _ _ _⟩, fun _ => mg_row hm _ _ _ _⟩
end Go.Proofs.Ytgejpbgpgklimaa
