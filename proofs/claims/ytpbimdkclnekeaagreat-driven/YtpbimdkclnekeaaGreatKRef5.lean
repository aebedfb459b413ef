import Derived.Test.YtpbimdkclnekeaaGreatKRef2
import Derived.Test.YtpbimdkclnekeaaGreatKLater
import Derived.Shelf.Abstract
import Derived.Laws.ResultCell

namespace Go.Proofs.YtpbimdkclnekeaaGreat
open Go.RowKit
set_option linter.unusedVariables false
theorem flat_row {α : Type} {f : α -> List Value} {w : World} {base : Nat} {e : TypeId} {k : Nat} {v : Value} {l : List α} {a : α} (h : w.ownsRow base e k v (l.length + 1) (l.flatMap f ++ f a)) : w.ownsRow base e k v (l ++ [a]).length ((l ++ [a]).flatMap f) := by
 rw [flat_snoc, List.length_append]; exact h
end Go.Proofs.YtpbimdkclnekeaaGreat

namespace Go.Proofs.YtpbimdkclnekeaaGreat
open Value (int)
open IntKind (i64)
open Go.RowKit
set_option linter.unusedVariables false
theorem mod_int (c n : Int) (hn : 0 < n) : ∃ r : Int, c % n = r /\ 0 <= r /\ r < n := ⟨_, rfl, Int.emod_nonneg c (by omega), Int.emod_lt_of_pos c hn⟩
set_option maxRecDepth 8000 in
set_option maxHeartbeats 1000000 in
theorem zdc (c n : Int) (hc : -9223372036854775808 <= c /\ c <= 9223372036854775807) (hn : 0 < n) :
  ∃ r : Int, 0 <= r /\ r < n /\ ∀ w : World, Calls Tryz.prog 29 #[int i64 c, int i64 n] w fun e w' => e = .returned (int i64 r) /\ w' = w := by
 have hn0 : ¬ n = 0 := by omega
 obtain ⟨hc1, hc2⟩ := hc
 by_cases h : c < 0
 ·obtain ⟨r, hi, h0, h1⟩ := mod_int (-(c + 1)) n hn
  refine ⟨r, h0, h1, fun w => ?_⟩
  have HI := zac hi
  clear hi h0 h1
  go_enter Tryz.func29, Tryz.ntmps29
  go_wp2
  go_ret
  have e1 : -(c + 1).tmod n = (-(c + 1)) % n := by rw [<- Int.neg_tmod, Int.tmod_eq_emod_of_nonneg (by omega)]
  exact ⟨by show Ending.returned (int i64 (-(c + 1).tmod n)) = _; rw [e1, ud HI], rfl⟩
 ·obtain ⟨r, hi, h0, h1⟩ := mod_int c n hn
  refine ⟨r, h0, h1, fun w => ?_⟩
  have HI := zac hi
  clear hi h0 h1
  go_enter Tryz.func29, Tryz.ntmps29
  go_wp2
  go_ret
  exact ⟨by show Ending.returned (int i64 (c % n)) = _; rw [ud HI], rfl⟩
theorem step_kpick {w : World} {ops : Array Oper} {o : Oper} {a : Act} {K : Act -> World -> Prop} {Q : Exit -> Act -> World -> Prop} {E : Prop} (hgd : o.guard = none) (x y : Operand) (ts : Array TypeId)
  (ho : o.op = .call { callee := .value (.func 29), args := #[x, y], argTypes := ts }) (v1 v2 : Value) (hx : a.eval x = v1) (hy : a.eval y = v2) (v : Value) (hc : Calls Tryz.prog 29 #[v1, v2] w fun e w' => e = .returned v /\ w' = w)
  (h : K (a.put o.dst v) w) : if Region.wanted o (yielded ops a.tmps) = true then Oper.wp Tryz.prog o a w K Q else E := by
 have hw : Region.wanted o (yielded ops a.tmps) = true := by simp [Region.wanted, hgd]
 rw [if_pos hw]
 have he : (execOp a.eval o).run Tryz.prog w = .ok (.enter 29 #[v1, v2]) w := by
  have hf : a.eval (.func 29) = .func (.func 29) #[] #[] := rfl
  simp [execOp, ho, resolve, invoke, hx, hy, hf, Deferred.ofValue]
 unfold Oper.wp
 rw [he, Oper.upon_enter]
 refine hc.mono ?_
 rintro e w' ⟨rfl, rfl⟩
 exact h
theorem step_push {w : World} {ops : Array Oper} {o : Oper} {a : Act} {K : Act -> World -> Prop} {Q : Exit -> Act -> World -> Prop} {E : Prop} (hgd : o.guard = none) (s x : Operand) (t e : TypeId) (size bytes : Nat) {z : Value}
  (ho : o.op = .call { callee := .builtin .append, args := #[s, x], argTypes := #[t, t] }) (ht : Tryz.prog.underlying t = some (.slice e)) (hinfo : (Tryz.prog.info? e).map (fun i => (i.zero, i.size, i.bytes)) = some (some z, size, bytes)) (hzs : z.cells.size = size) (hsz : 0 < size)
  (base : Nat) (v : Value) (n : Nat) (xs : List Value) (hs : a.eval s = v) (hown : w.ownsRow base e size v n xs) (B1 : Nat) (news : List Value) (ty : TypeId) (fr : Nat × Nat) (hx : a.eval x = .slice (some ⟨B1, 0, none⟩) 1 1) (hB1 : w.heap[B1]? = some (.cells news.toArray ty fr)) (hl : news.length = size) (h1 : ∀ u ∈ news, u.oneCell' = true)
  (h63 : n + 1 <= maxLen) (hbytes : (n + 1) * bytes <= 140737488355328) (hbase : base <= w.heap.size)
  (h : ∀ g cap w', w'.ownsRow base e size (.slice (some ⟨g, 0, none⟩) (n + 1) cap) (n + 1) (xs ++ news) -> w.grownBy w' v.ownBlock -> (v.ownBlock = some g \/ g = w.heap.size) -> g < w'.heap.size -> K (a.put o.dst (.slice (some ⟨g, 0, none⟩) (n + 1) cap)) w') :
  if Region.wanted o (yielded ops a.tmps) = true then Oper.wp Tryz.prog o a w K Q else E := by
 have hw : Region.wanted o (yielded ops a.tmps) = true := by simp [Region.wanted, hgd]
 rw [if_pos hw]
 cases hq : Tryz.prog.info? e with
 | none => simp [hq] at hinfo
 | some i =>
  simp only [hq, Option.map_some, Option.some.injEq, Prod.mk.injEq] at hinfo
  obtain ⟨hz, hsize, hby⟩ := hinfo
  have hn := World.news_of_block (cs := news.toArray) hB1
  obtain ⟨g, cap, w', hr, h2, _, h4, h5, h6⟩ := run_append_keep (P := Tryz.prog) w t o.type base e i _ size bytes ht hq hz hsize hby hzs hsz v n xs hown ⟨B1, 0, none⟩ 1 1 news (by omega) hn h1 (by decide) h63 hbytes hbase
  unfold Oper.wp
  simp [execOp, ho, resolve, invoke, builtin, hs, hx, hr, Result.andThen]
  exact h g cap w' h2 h4 h5 h6
end Go.Proofs.YtpbimdkclnekeaaGreat

namespace Go.Proofs.YtpbimdkclnekeaaGreat
open Go.RowKit
set_option linter.unusedVariables false
theorem zae {f : Nat -> Prop} {a w : World} {g i : Nat} {v : Value} (h : zaj f a w) (hg : f g) : zaj f a (w.setCell ⟨g, i, none⟩ v) := h.setCell (p := ⟨g, i, none⟩) (fun _ => hg) v
theorem kept_below {f : Nat -> Prop} {a w w' : World} (h : zaj f a w) (hb : Below w.heap.size w w') : zaj f a w' := h.trans (zaj.of_below (f := f) hb) (fun _ _ h => h)
end Go.Proofs.YtpbimdkclnekeaaGreat

namespace Go.Proofs.YtpbimdkclnekeaaGreat
open Value (int)
open IntKind (i64)
open Go.RowKit
set_option linter.unusedVariables false
theorem zbh {P : Program} {fn : Func} {p u : Tmp} {ty : TypeId} (h : fn.results = #[.cell p ty, .tmp u]) (tmps : Array Value) (w : World) (g : Nat) (t : TypeId) (cs : Array Value) (fr : Nat × Nat) (d : TypeDesc) (x : Value)
  (hp : tmps.getD p undef = .pointer (some ⟨g, 0, none⟩)) (hx : tmps.getD u undef = x) (hg : w.heap[g]? = some (.cells cs t fr))
  (hu : P.underlying ty = some d) (hd : (match d with | .struct _ | .array _ _ => true | _ => false) = true) (hi : (P.info? ty).map (·.size) = some cs.size) :
  (results fn tmps).run P w = .ok (.tuple #[.agg cs, x]) w := by
 rw [results_cell_tmp h, hp, hx]
 simp [asAddr, run_loadVar_row w g t ty cs fr d hg hu hd hi, Result.andThen]
def clV (A : Cl) : Value := .agg #[int i64 A.cnt, int i64 A.sum, .int .i32 A.mn, .int .i32 A.mx]
end Go.Proofs.YtpbimdkclnekeaaGreat
