import Derived.Test.YtpbimdkclnekeaaGreatTShp0
import Derived.Test.YtpbimdkclnekeaaGreatTRef6
import Derived.Test.YtpbimdkclnekeaaGreatTLater
import Derived.Shelf.Abstract
import Derived.Test.YtpbimdkclnekeaaGreatTKit0
import Derived.Test.YtpbimdkclnekeaaGreatTZet7
import Derived.Test.YtpbimdkclnekeaaGreatTSeq0
import Derived.Test.YtpbimdkclnekeaaGreatTFits0
import Derived.Test.YtpbimdkclnekeaaGreatTConf4
import Derived.Test.YtpbimdkclnekeaaGreatTJn1
import Derived.Test.YtpbimdkclnekeaaGreatTConf3
import Derived.Test.YtpbimdkclnekeaaGreatTOrd2
import Derived.Test.YtpbimdkclnekeaaGreatTPck1

namespace Go.Proofs.YtpbimdkclnekeaaGreat
open Go.RowKit
set_option linter.unusedVariables false
def RM.fail (m : RM) (ep num : Int) : RM × Int := match m.tasks.findIdx? (Tk.holds ep num) with
 | some i => ({ m with tasks := m.tasks.modify i (Tk.fail m.now) }, 0)
 | none => (m, 8)
def RM.done (m : RM) (kind : Int) (s : Sg) : RM := if kind = 1 then { m with pub := m.pub ++ [s] }.settled else { m with gone := m.gone ++ [s] }.settled
def RM.commit (m : RM) (ep num : Int) : RM × Int := match m.tasks.findIdx? (Tk.holds ep num) with
 | some i => (m.done ((m.tasks[i]?).getD ⟨0, ⟨0, 0, 0⟩, 0, 0, 0, 0, 0, 0, 0⟩).kind ((m.tasks[i]?).getD ⟨0, ⟨0, 0, 0⟩, 0, 0, 0, 0, 0, 0, 0⟩).s, 0)
 | none => (m, 8)
end Go.Proofs.YtpbimdkclnekeaaGreat

namespace Go.Proofs.YtpbimdkclnekeaaGreat
open Value (int)
open IntKind (i64)
open Go.RowKit
set_option linter.unusedVariables false
abbrev tkA (x : Tk) : Value := .agg #[int i64 x.kind, int i64 x.s.t, int i64 x.s.ser, int i64 x.s.win, int i64 x.since, int i64 x.tries, int i64 x.rest, int i64 x.ep, int i64 x.num, int i64 x.slot, int i64 x.till]
end Go.Proofs.YtpbimdkclnekeaaGreat

namespace Go.Proofs.YtpbimdkclnekeaaGreat
open Go.RowKit
set_option linter.unusedVariables false
def Tk.leased (ep num slot till : Int) (x : Tk) : Tk := { x with ep := ep, num := num, slot := slot, till := till }
def noTk : Tk := ⟨0, ⟨0, 0, 0⟩, 0, 0, 0, 0, 0, 0, 0⟩
def mkTk (k : Int) : Tk := ⟨k, ⟨0, 0, 0⟩, 0, 0, 0, 0, 0, 0, 0⟩
def MkJ (X : Nat) (w : World) (u : Value) (n : Nat) (k : Int) : Prop := w.ownsRow X 51 11 u n ((List.replicate n (mkTk k)).flatMap tkV)
structure Lists (B : Nat) (w : World) (lv : Value) (kn : List Value) (q : Nat) : Prop where
 row : w.ownsRow B 55 1 lv kn.length kn
 four : kn.length = 4 * q
 marks : ∀ j v, kn[j]? = some v -> ∃ n, n <= 1000000 /\ MkJ B w v n (((j / 4 : Nat) : Int) + 10)
theorem flat_repl (n j : Nat) (m : Tk) : (List.replicate n m).flatMap tkV ++ (List.replicate j m).flatMap tkV = (List.replicate (n + j) m).flatMap tkV := by
 rw [<- List.flatMap_append, List.replicate_append_replicate]
theorem flat_repl_at {n i j : Nat} (m : Tk) (hi : i < n) (hj : j < 11) : ((List.replicate n m).flatMap tkV)[i * 11 + j]? = (tkV m)[j]? := zek tkV_len _ i m j (by simp [hi]) hj
theorem MkJ.alloc {X : Nat} {w : World} {u : Value} {k : Nat} {m : Int} (h : MkJ X w u k m) (o : Obj) : MkJ X (w.alloc o) u k m := World.ownsRow.alloc h o
theorem MkJ.of {X n j : Nat} {w : World} {v : Value} {m : Int} (h : w.ownsRow X 51 11 v (n + j) ((List.replicate n (mkTk m)).flatMap tkV ++ (List.replicate j (mkTk m)).flatMap tkV)) : MkJ X w v (n + j) m := by
 rw [flat_repl] at h; exact h
section
variable {P : Program}
end
end Go.Proofs.YtpbimdkclnekeaaGreat

namespace Go.Proofs.YtpbimdkclnekeaaGreat
open Value (int)
open IntKind (i64)
open Go.RowKit
set_option linter.unusedVariables false
set_option maxRecDepth 8000 in
set_option maxHeartbeats 8000000 in
theorem looksJ_any {B : Nat} {w : World} {wb : Nat} {pv lv : Value} {kn : List Value} {q : Nat} (hw : w.heap[wb]? = some (.cells #[pv, lv] 63 (0, 0))) (h : Lists B w lv kn q) (hq : q <= 1099511627776) :
  Calls Tryz.prog 22 #[.pointer (some ⟨wb, 0, none⟩)] w fun e w' => e = .returned (.bool true) /\ Below w.heap.size w w' := by
 obtain ⟨an, capn, rfl⟩ := zah h.row
 have h4 := h.four
 have hkl : kn.length <= 4398046511104 := by omega
 have hrow := h.row
 have hmarks := h.marks
 generalize hK : kn.length = K at *
 have c1 : w.cell? ⟨wb, 1, none⟩ = some (.slice an K capn) := by rw [zac hw]; rfl
 have hwl := zaa hw
 have HROW := zab hrow
 have HMS := zab hmarks
 have HKL := zab hK
 clear h hw hrow hmarks h4 hK hq
 go_enter Tryz.func22, Tryz.ntmps22
 go_wp2_with fail
 go_loopw [2, 3] (fun _ y wr => ∃ (k : Nat), k <= K /\ y = int i64 k /\ Below w.heap.size w wr) (fun _ y _ => K - (intOf y).toNat)
 case atStart => exact ⟨0, Nat.zero_le _, rfl, Below.refl _ _⟩
 case round =>
  obtain ⟨k, hk, rfl, hb⟩ := hrel
  have cr := (hb.cell (p := ⟨wb, 1, none⟩) hwl).trans c1
  have hwr := Nat.lt_of_lt_of_le hwl hb.size
  by_cases hlt : k < K
  ·obtain ⟨v, hx⟩ : ∃ v, kn[k]? = some v := ⟨_, List.getElem?_eq_getElem (by rw [ud HKL]; exact hlt)⟩
   obtain ⟨n, hn, hv⟩ := ud HMS k v hx
   obtain ⟨gn, capn', hn', -, hgl⟩ := (ud HROW).form (by omega)
   injection hn' with hn1 hn2 hn3
   subst hn1
   obtain ⟨av, capv, rfl⟩ := zah hv
   have hd1 : w.cell? ⟨gn, k, none⟩ = some (.slice av n capv) := by rw [(ud HROW).cellAt _ (by omega)]; exact hx
   have d1 := (hb.cell (p := ⟨gn, k, none⟩) hgl).trans hd1
   have hgr := Nat.lt_of_lt_of_le hgl hb.size
   have hkn' : (k : Int) < K := by omega
   obtain ⟨mk, hmk⟩ : ∃ mk : Int, (k : Int) / 4 + 10 = mk := ⟨_, rfl⟩
   have hdiv : (k : Int) / 4 = ((k / 4 : Nat) : Int) := by omega
   rw [<- hdiv, hmk] at hv
   have HV := zab hv
   have HB := zab hb
   clear hx hn2 hn3 hdiv hv hb
   go_wp2_with fail
   go_loopw [4] (fun y wq => ∃ (j : Nat), j <= n /\ y = int i64 j /\ Below w.heap.size w wq) (fun y _ => n - (intOf y).toNat)
   case atStart => exact ⟨0, Nat.zero_le _, rfl, ud HB⟩
   case round =>
    obtain ⟨j, hj, rfl, hbq⟩ := hrel
    have cq := (hbq.cell (p := ⟨wb, 1, none⟩) hwl).trans c1
    have dq := (hbq.cell (p := ⟨gn, k, none⟩) hgl).trans hd1
    have hwq := Nat.lt_of_lt_of_le hwl hbq.size
    have hgq := Nat.lt_of_lt_of_le hgl hbq.size
    have HBQ := zab hbq
    by_cases hjl : j < n
    ·obtain ⟨gv, capv', hv', -, hvl⟩ := (ud HV).form (by omega)
     injection hv' with hv1 hv2 hv3
     subst hv1
     have xa : ∀ i, i < 11 -> wr.cell? ⟨gv, j * 11 + i, none⟩ = (tkV (mkTk mk))[i]? := fun i hi => by
      rw [hbq.cell (p := ⟨gv, j * 11 + i, none⟩) hvl, (ud HV).cellAt _ (by omega)]
      exact flat_repl_at _ hjl hi
     have d0 : wr.cell? ⟨gv, j * 11, none⟩ = some (int i64 mk) := xa 0 (by omega)
     have d1 : wr.cell? ⟨gv, j * 11 + 1, none⟩ = some (int i64 0) := xa 1 (by omega)
     have d2 : wr.cell? ⟨gv, j * 11 + 2, none⟩ = some (int i64 0) := xa 2 (by omega)
     have d3 : wr.cell? ⟨gv, j * 11 + 3, none⟩ = some (int i64 0) := xa 3 (by omega)
     have d4 : wr.cell? ⟨gv, j * 11 + 4, none⟩ = some (int i64 0) := xa 4 (by omega)
     have d5 : wr.cell? ⟨gv, j * 11 + 5, none⟩ = some (int i64 0) := xa 5 (by omega)
     have d6 : wr.cell? ⟨gv, j * 11 + 6, none⟩ = some (int i64 0) := xa 6 (by omega)
     have d7 : wr.cell? ⟨gv, j * 11 + 7, none⟩ = some (int i64 0) := xa 7 (by omega)
     have d8 : wr.cell? ⟨gv, j * 11 + 8, none⟩ = some (int i64 0) := xa 8 (by omega)
     have d9 : wr.cell? ⟨gv, j * 11 + 9, none⟩ = some (int i64 0) := xa 9 (by omega)
     have d10 : wr.cell? ⟨gv, j * 11 + 10, none⟩ = some (int i64 0) := xa 10 (by omega)
     have hjn : (j : Int) < n := by omega
     have hvq := Nat.lt_of_lt_of_le hvl hbq.size
     clear hv2 hv3 xa hbq
     go_wp2_with fail
     exact ⟨⟨j + 1, by omega, by go_num, ud HBQ⟩, by simp [intOf]; omega⟩
    ·have hjn : ¬ (j : Int) < n := by omega
     clear hbq
     go_wp2_with fail
     exact ⟨⟨k + 1, by omega, by go_num, ud HBQ⟩, by simp [intOf]; omega⟩
  ·have hkn' : ¬ (k : Int) < K := by omega
   have HB := zab hb
   clear hb
   go_wp2_with fail
   go_ret
   exact ⟨rfl, ud HB⟩
end Go.Proofs.YtpbimdkclnekeaaGreat

namespace Go.Proofs.YtpbimdkclnekeaaGreat
open Go.RowKit
set_option linter.unusedVariables false
theorem Lists.later {B : Nat} {w w' : World} {lv : Value} {kn : List Value} {q : Nat} (h : Lists B w lv kn q) (hb : Below w.heap.size w w') : Lists B w' lv kn q :=
 ⟨zae h.row (zan.of_below (f := fun _ => False) hb) (fun _ _ h => h), h.four, fun j v hj => by
  obtain ⟨n, h1, h2⟩ := h.marks j v hj
  exact ⟨n, h1, zae h2 (zan.of_below (f := fun _ => False) hb) (fun _ _ h => h)⟩⟩
theorem Lists.lt {B : Nat} {w : World} {lv : Value} {kn : List Value} {q : Nat} (h : Lists B w lv kn q) : ∀ v ∈ kn, ∀ k, v.ownBlock = some k -> k < w.heap.size := fun v hv k hk => by
 obtain ⟨j, hj⟩ := List.getElem?_of_mem hv
 obtain ⟨n, -, h2⟩ := h.marks j v hj
 exact (World.ownsRow.lt h2 k hk).2
end Go.Proofs.YtpbimdkclnekeaaGreat

namespace Go.Proofs.YtpbimdkclnekeaaGreat
open Go.RowKit Go.Maps Go.Shelf
open Go.ChangeMaps (setBlock)
set_option linter.unusedVariables false
structure TskIn (c : Cf) (now : Int) (x : Tsk) : Prop where
 t1 : -1 <= x.s.t
 t2 : x.s.t < c.n
 win : 0 <= x.s.win /\ x.s.win <= 100000
 since : 0 <= x.since /\ x.since <= now
end Go.Proofs.YtpbimdkclnekeaaGreat
