import Derived.WalkKit
import Derived.Below
import Derived.Deep.QuietTactic
import Derived.BigQuiet

/- A region that draws its order, reads old memory and calls functions that only make new memory: one walk, in the text's order. The class of worlds: all that are as W was below block B. -/
namespace Go.Proofs.YtgadceofpbfleaaGreat
open Go.RowKit

/-- The worlds that are as W was below block B. -/
def Later (B : Nat) (W : World) : Type := { u : World // Below B W u }

theorem Later.some (B : Nat) (W : World) : Nonempty (Later B W) := ⟨⟨W, Below.refl _ _⟩⟩

theorem Later.cell {B : Nat} {W : World} (u : Later B W) (b o : Nat) (h : b < B) : u.1.cell? ⟨b, o, none⟩ = W.cell? ⟨b, o, none⟩ := u.2.cell (p := ⟨b, o, none⟩) h

theorem Calls.later {P : Program} {f : FuncId} {args : Array Value} {B : Nat} {W : World} (hB : B ≤ W.heap.size) {u : Later B W} {v : Value}
    (h : Calls P f args u.1 fun e w' => e = .returned v ∧ Below u.1.heap.size u.1 w') : Calls P f args u.1 fun e w'' => e = .returned v ∧ ∃ x : Later B W, w'' = x.1 :=
  h.mono fun _ w' ⟨he, hb⟩ => ⟨he, ⟨w', u.2.trans (hb.mono (Nat.le_trans hB u.2.size))⟩, rfl⟩

theorem Calls.later_same {P : Program} {f : FuncId} {args : Array Value} {B : Nat} {W : World} {u : Later B W} {v : Value}
    (h : Calls P f args u.1 fun e w' => e = .returned v ∧ w' = u.1) : Calls P f args u.1 fun e w'' => e = .returned v ∧ ∃ x : Later B W, w'' = x.1 :=
  h.mono fun _ _ ⟨he, hb⟩ => ⟨he, u, hb⟩

theorem wp_region_later {P : Program} {id : Nat} {Q : Exit → Act → World → Prop} {a : Act} {w : World} {l : List Oper} (B : Nat) (hm : P.follows .mixedOrders = true) (hx : Region.lexB .any l.toArray = true)
    (h : wpQuiet P l.toArray (fun w' => ∃ u : Later B w, w' = u.1) (fun a' => ∀ u : Later B w, Q .normal a' u.1) l a) : (Code.region id l.toArray true).wp P Q a w :=
  wp_region_quiet (C := fun w' => ∃ u : Later B w, w' = u.1) hm hx ⟨⟨w.drew, (Below.refl _ _).drew⟩, rfl⟩ (by
    have : (fun a' => ∀ w', (∃ u : Later B w, w' = u.1) → Q .normal a' w') = (fun a' => ∀ u : Later B w, Q .normal a' u.1) := by
      funext a'; exact propext ⟨fun h u => h _ ⟨u, rfl⟩, fun h _ ⟨u, e⟩ => e ▸ h u⟩
    rw [this]; simpa using h)
end Go.Proofs.YtgadceofpbfleaaGreat
