import Derived.Test.YtpbimdkclnekeaaGreatKZet7
import Derived.Test.YtpbimdkclnekeaaGreatKPck2
import Derived.StillTactics

namespace Go.Proofs.YtpbimdkclnekeaaGreat
open Go.RowKit Go.Maps Go.Shelf
set_option linter.unusedVariables false
def Wt (L : LV) (s : Sg) : Prop := ∃ v, (s, v) ∈ L /\ v.st = 2
def Pub (L : LV) (s : Sg) : Prop := ∃ v, (s, v) ∈ L /\ v.st = 3
structure TskR (c : Cf) (now : Int) (L : LV) (ns : List Nm) (rl : Bool) (s : Sg) : Prop where
 roll : rl = true -> ∀ k : Nat, s.t = k -> ∀ x ∈ ns, zaz c s.t x = s -> ¬ Wt L (zaz c (c.F k) x)
 recl : rl = false -> (s.win + 1) * c.width s.t + c.keep s.t <= now /\ ∀ x ∈ ns, zaz c s.t x = s -> ∀ k : Nat, k < c.n -> c.F k = s.t -> ¬ Wt L (zaz c k x)
structure RInv (c : Cf) (m : MS) (ns : List Nm) : Prop where
 tm : ∀ x ∈ ns, 0 <= x.tm /\ x.tm <= m.now /\ 0 <= x.ser /\ x.ser < 4 /\ -2147483648 <= x.val /\ x.val <= 2147483647
 keys : ∀ x ∈ ns, ∀ t : Int, -1 <= t -> t < c.n -> zaz c t x ∈ zaq m.L \/ zaz c t x ∈ zas m.Gl
 has : ∀ s ∈ zaq m.L, ∃ x ∈ ns, zaz c s.t x = s
 gone : ∀ x ∈ ns, ∀ k : Nat, k < c.n -> zaz c (c.F k) x ∈ zas m.Gl -> zaz c k x ∈ zas m.Gl \/ Pub m.L (zaz c k x)
 over : ∀ s ∈ zas m.Gl, (s.win + 1) * c.width s.t + c.keep s.t <= m.now
 cell : ∀ p ∈ m.L, p.2.st ≠ 2 -> IsC (fun x => zaz c p.1.t x = p.1) ns p.2.cl
 tasks : ∀ p ∈ m.TL, TskR c m.now m.L ns p.2.rl p.2.s
section
variable {c : Cf} {ep : Int} {m : MS} {ns : List Nm}
theorem mem_one {L : LV} (hn : (zaq L).Nodup) {s : Sg} {u v : SV} (h : (s, u) ∈ L) (k : (s, v) ∈ L) : u = v := by
 have h1 : zbq L s = some u := zej hn h
 have h2 : zbq L s = some v := zej hn k
 rw [h1] at h2; injection h2
theorem key_of {L : LV} {p : Sg × SV} (h : p ∈ L) : p.1 ∈ zaq L := List.mem_map.2 ⟨p, h, rfl⟩
theorem wt_stL {L : LV} (hn : (zaq L).Nodup) {s : Sg} (h : Wt L s) : s ∈ zaq L /\ (stL L s).st = 2 := by
 obtain ⟨v, hv, h2⟩ := h
 have hk := key_of hv
 have := zcc hk
 rw [mem_one hn this hv]
 exact ⟨hk, h2⟩
theorem width_nat (c : Cf) (k : Nat) : c.width (k : Int) = c.W k := by
 unfold Cf.width zbp
 rw [if_neg (by omega)]; simp
theorem seg_up (hc : c.ok) (hf : c.fits) {x : Nm} (hx : 0 <= x.tm) {k : Nat} (hk : k < c.n) : x.tm / c.width (c.F k) * c.width (c.F k) / c.W k = x.tm / c.W k := by
 obtain ⟨q, h1, hq⟩ := hf.quot k hk
 have hF := hf.down k hk
 have hw := (hc.width hF.1 (by omega)).1
 rw [hq, Int.mul_comm (x.tm / c.width (c.F k)), Int.mul_ediv_mul_of_pos _ _ (by omega), Int.ediv_ediv_of_nonneg (by omega)]
theorem hang_seg (hc : c.ok) (hf : c.fits) {x : Nm} (hx : 0 <= x.tm) {k : Nat} (hk : k < c.n) : zaz c k x ∈ hangL c (zaz c (c.F k) x) := by
 unfold hangL aboL
 rw [List.map_map]
 refine List.mem_map.2 ⟨k, List.mem_filter.2 ⟨by simpa using hk, by simp [zaz]⟩, ?_⟩
 show (⟨(k : Int), x.ser, x.tm / c.width (c.F k) * c.width (c.F k) / c.W k⟩ : Sg) = zaz c k x
 rw [seg_up hc hf hx hk]
 unfold zaz; rw [width_nat]
theorem open_not_gone (hc : c.ok) (hm : MOk c ep m) {x : Nm} (hl : m.now - c.la <= x.tm) {t : Int} (h1 : -1 <= t) (h2 : t < c.n) : zaz c t x ∉ zas m.Gl := fun h => seg_open hc h1 h2 hl (hm.seg.goc _ h)
theorem open_not_pub (hc : c.ok) (hm : MOk c ep m) {x : Nm} (hl : m.now - c.la <= x.tm) {t : Int} (h1 : -1 <= t) (h2 : t < c.n) : ¬ Pub m.L (zaz c t x) := fun ⟨v, hv, h3⟩ => seg_open hc h1 h2 hl (hm.seg.pubc _ hv h3)
theorem postR_mem {now : Int} : ∀ (ys : List Sg) {T : List (Jk × Tsk)} {p : Jk × Tsk}, p ∈ ys.foldl (postR now) T -> p ∈ T \/ ∃ s ∈ ys, p.2.rl = true /\ p.2.s = s
 | [], T, p, h => .inl h
 | y :: ys, T, p, h => by
  rcases postR_mem ys h with h | ⟨s, hs, h⟩
  ·unfold postR at h
   split at h
   ·exact .inl h
   ·rcases zef h with rfl | ⟨h, _⟩
    ·exact .inr ⟨y, by simp, rfl, rfl⟩
    ·exact .inl h
  ·exact .inr ⟨s, by simp [hs], h⟩
theorem postC_mem {now : Int} : ∀ (ys : List Sg) {T : List (Jk × Tsk)} {p : Jk × Tsk}, p ∈ ys.foldl (postC now) T -> p ∈ T \/ ∃ s ∈ ys, p.2.rl = false /\ p.2.s = s
 | [], T, p, h => .inl h
 | y :: ys, T, p, h => by
  rcases postC_mem ys h with h | ⟨s, hs, h⟩
  ·unfold postC at h
   split at h
   ·exact .inl h
   ·rcases zef h with rfl | ⟨h, _⟩
    ·exact .inr ⟨y, by simp, rfl, rfl⟩
    ·exact .inl h
  ·exact .inr ⟨s, by simp [hs], h⟩
theorem RInv.post (hc : c.ok) (hf : c.fits) (hsg : SegOk c m.now m.L m.Gl) (h : RInv c m ns) {TL' : List (Jk × Tsk)} (hp : zey c m TL') : RInv c { m with TL := TL' } ns := by
 obtain ⟨Bs, ys1, ys2, hB, h1, h2, rfl⟩ := hp.to
 refine ⟨h.tm, h.keys, h.has, h.gone, h.over, h.cell, fun p hp => ?_⟩
 rcases postC_mem ys2 hp with hp | ⟨s, hs, e1, e2⟩
 ·rcases postR_mem ys1 hp with hp | ⟨s, hs, e1, e2⟩
  ·exact h.tasks p hp
  ·rw [e1, e2]
   refine ⟨fun _ k hk x hx hxs hw => ?_, fun e => by cases e⟩
   obtain ⟨hs1, hr⟩ := (h1 s).1 hs
   obtain ⟨k1, k2⟩ := wt_stL hsg.nl hw
   have hkn : k < c.n := by
    have := (hsg.inr _ (zcc hs1)).2.2.1
    simp only at this
    omega
   have hin : s ∈ zas Bs := (hB s).2 ⟨_, k1, k2, by
    have := hang_seg hc hf (h.tm x hx).1 hkn
    rw [<- hk, hxs] at this
    exact this⟩
   unfold rollB at hr
   simp only [Bool.and_eq_true, Option.isNone_iff_eq_none] at hr
   exact zdb.1 hr.1.1 hin
 ·rw [e1, e2]
  refine ⟨fun e => (by cases e), fun _ => ?_⟩
  obtain ⟨hs1, hr⟩ := (h2 s).1 hs
  have hin := hsg.inr _ (zcc hs1)
  unfold reclB at hr
  simp only [Bool.and_eq_true, Bool.not_eq_true', beq_eq_false_iff_ne, ne_eq, decide_eq_true_eq] at hr
  obtain ⟨⟨r1, r2⟩, r3⟩ := hr
  refine ⟨r2, fun x hx hxs k hk hFk hw => ?_⟩
  obtain ⟨k1, k2⟩ := wt_stL hsg.nl hw
  have hA : zaz c k x ∈ hangL c s := by
   have := hang_seg hc hf (h.tm x hx).1 hk
   rw [hFk, hxs] at this
   exact this
  unfold hangsB at r3
  have h5 : ((hangW c s).filter (fun x => (stL m.L x.1).st == 2)).length = 0 := by
   have := of_decide_eq_true (show decide ((((hangW c s).filter (fun x => (stL m.L x.1).st == 2)).length : Int) = 0) = true from by simpa using r3)
   omega
  have hm := (hangW_mem hc hin (zaz c k x)).2 hA
  obtain ⟨y, hy, ey⟩ := List.mem_map.1 hm
  have : y ∈ (hangW c s).filter (fun x => (stL m.L x.1).st == 2) := List.mem_filter.2 ⟨hy, by rw [ey]; simpa using k2⟩
  rw [List.eq_nil_of_length_eq_zero h5] at this; simp at this
theorem failed_mem {T : List (Jk × Tsk)} {k : Jk} {x : Tsk} {now : Int} (hx : zbq T k = some x) {p : Jk × Tsk} (hp : p ∈ zdz T k (x.failed now)) : ∃ q ∈ T, q.2.rl = p.2.rl /\ q.2.s = p.2.s := by
 rcases zef hp with rfl | ⟨hp, _⟩
 ·exact ⟨_, zbj hx, rfl, rfl⟩
 ·exact ⟨p, hp, rfl, rfl⟩
theorem exps_mem {now : Int} {TL : List (Jk × Tsk)} {QL : List (Tok × Lse)} {T1 : List (Jk × Tsk)} {Q1 : List (Tok × Lse)} (h : Exps now TL QL T1 Q1) : ∀ p ∈ T1, ∃ q ∈ TL, q.2.rl = p.2.rl /\ q.2.s = p.2.s := by
 induction h with
 | nil => exact fun p hp => ⟨p, hp, rfl, rfl⟩
 | step h1 h2 h3 h4 ih =>
  intro p hp
  obtain ⟨q, hq, e1, e2⟩ := failed_mem h4 hp
  obtain ⟨r, hr, e3, e4⟩ := ih q hq
  exact ⟨r, hr, e3.trans e1, e4.trans e2⟩
theorem TskR.mono {now now' : Int} {L : LV} {rl : Bool} {s : Sg} (h : TskR c now L ns rl s) (hn : now <= now') : TskR c now' L ns rl s :=
 ⟨h.roll, fun e => ⟨by have := (h.recl e).1; omega, (h.recl e).2⟩⟩
theorem TskR.live {now : Int} {L L' : LV} {rl : Bool} {s : Sg} (h : TskR c now L ns rl s) (hw : ∀ y, Wt L' y -> Wt L y) : TskR c now L' ns rl s :=
 ⟨fun e k hk x hx hs hh => h.roll e k hk x hx hs (hw _ hh), fun e => ⟨(h.recl e).1, fun x hx hs k hk hF hh => (h.recl e).2 x hx hs k hk hF (hw _ hh)⟩⟩
theorem RInv.ticked (h : RInv c m ns) {now' : Int} (hn : m.now <= now') {T1 : List (Jk × Tsk)} {Q1 : List (Tok × Lse)} (ht : ∀ p ∈ T1, ∃ q ∈ m.TL, q.2.rl = p.2.rl /\ q.2.s = p.2.s) (num : Int) : RInv c { m with now := now', num := num, TL := T1, QL := Q1 } ns :=
 ⟨fun x hx => by have := h.tm x hx; exact ⟨this.1, by show x.tm <= now'; omega, this.2.2⟩, h.keys, h.has, h.gone, fun s hs => by have := h.over s hs; show _ <= now'; omega, h.cell, fun p hp => by
  obtain ⟨q, hq, e1, e2⟩ := ht p hp
  have := (h.tasks q hq).mono hn
  rw [e1, e2] at this; exact this⟩
end
end Go.Proofs.YtpbimdkclnekeaaGreat

namespace Go.Proofs.YtpbimdkclnekeaaGreat
open Value (int)
open IntKind (i64)
open Go.RowKit Go.Maps Go.Shelf
set_option linter.unusedVariables false
def StK (w w' : World) : Prop := ∀ (q : Nat) (cs : Array Value) (fr : Nat × Nat), w.heap[q]? = some (.cells cs 37 fr) -> w'.heap[q]? = some (.cells cs 37 fr)
theorem StK.refl (w : World) : StK w w := fun _ _ _ h => h
theorem StK.trans {a b d : World} (h : StK a b) (h2 : StK b d) : StK a d := fun q cs fr e => h2 q cs fr (h q cs fr e)
theorem StK.below {w w' : World} (h : Below w.heap.size w w') : StK w w' := fun q cs fr e => (h.block q (zaa e)).trans e
theorem StK.kept {f : Nat -> Prop} {w w' : World} (h : zaj f w w') (hf : ∀ q cs fr, w.heap[q]? = some (.cells cs 37 fr) -> ¬ f q) : StK w w' := fun q cs fr e => h.heap e (hf q cs fr e)
theorem StK.drew {w w' : World} (h : StK w w') : StK w w'.drew := h
theorem StK.alloc {w w' : World} (h : StK w w') (o : Obj) : StK w (w'.alloc o) := h.trans (StK.below ((Below.refl _ _).alloc (Nat.le_refl _) o))
theorem StK.row {w w' : World} {B : Nat} {e : TypeId} {size n : Nat} {v : Value} {xs : List Value} (h : w.ownsRow B e size v n xs) (he : e ≠ 37) (hk : zaj (fun k => v.ownBlock = some k) w w') : StK w w' :=
 StK.kept hk (fun q cs fr hq hv => by
  obtain ⟨cur, hc⟩ := zbv h hv
  rw [hq] at hc
  injection hc with hc; injection hc with _ hc; exact he hc.symm)
theorem StK.set {w : World} {g i : Nat} {cs : Array Value} {t : TypeId} {fr : Nat × Nat} (hg : w.heap[g]? = some (.cells cs t fr)) (ht : t ≠ 37) (v : Value) : StK w (w.setCell ⟨g, i, none⟩ v) :=
 StK.kept (f := fun k => k = g) (zaj.setCell (f := fun k => k = g) (zaj.refl _ _) (p := ⟨g, i, none⟩) (fun _ => rfl) v) (fun q cs' fr' hq e => by
  have e' : q = g := e
  rw [e', hg] at hq
  injection hq with hq; injection hq with _ hq; exact ht hq)
theorem StK.mill {w w' : World} {i : Ids} {c : Cf} {ep : Int} {m : MS} (h : zat w i c ep m) (hk : zaj (zbx i) w w') : StK w w' :=
 StK.kept hk (fun q cs fr hq hf => by
  rcases hf with e | e | e
  ·have hx := h.head
   rw [<- e, hq] at hx
   injection hx with hx; injection hx with _ hx; exact absurd hx (by decide)
  ·rcases e with e | e | e | e
   ·have hx := h.set.head
    rw [<- e, hq] at hx
    injection hx with hx; injection hx with _ hx; exact absurd hx (by decide)
   ·obtain ⟨cur, hc⟩ := zbv h.set.trow e
    rw [hq] at hc
    injection hc with hc; injection hc with _ hc; exact absurd hc (by decide)
   ·exact zda (live_map.1 h.set.live) hq e.symm
   ·exact zda h.set.gone hq e.symm
  ·rcases e with e | e | e
   ·have hx := h.board.head
    rw [<- e, hq] at hx
    injection hx with hx; injection hx with _ hx; exact absurd hx (by decide)
   ·exact zda h.board.tasks hq e.symm
   ·exact zda h.board.leases hq e.symm)
structure Bel (B : Nat) (w w' : World) : Prop where
 bel : Below B w w'
 stk : StK w w'
section
variable {B : Nat} {w a b : World}
theorem Bel.size (h : Bel B w a) : w.heap.size <= a.heap.size := h.bel.size
theorem Bel.trans (h : Bel B w a) (h2 : Bel B a b) : Bel B w b := ⟨h.bel.trans h2.bel, h.stk.trans h2.stk⟩
theorem Bel.drew (h : Bel B w a) : Bel B w a.drew := ⟨h.bel.drew, h.stk⟩
theorem Bel.alloc (h : Bel B w a) (hB : B <= a.heap.size) (o : Obj) : Bel B w (a.alloc o) := ⟨h.bel.alloc hB o, h.stk.alloc o⟩
theorem Bel.of (h : Below w.heap.size w a) (hB : B <= w.heap.size) : Bel B w a := ⟨h.mono hB, StK.below h⟩
theorem Bel.mill {i : Ids} {c : Cf} {ep : Int} {m : MS} (h : zat w i c ep m) (hk : zaj (zbx i) w a) (hB : B <= w.heap.size) (hlo : ∀ j, zbx i j -> B <= j) : Bel B w a := ⟨hk.below hB hlo, StK.mill h hk⟩
theorem Bel.row {e : TypeId} {size n : Nat} {v : Value} {xs : List Value} (h : w.ownsRow B e size v n xs) (he : e ≠ 37) (hk : zaj (fun k => v.ownBlock = some k) w a) (hB : B <= w.heap.size) : Bel B w a := ⟨hk.below hB (fun q hq => (h.lt q hq).1), StK.row h he hk⟩
theorem Bel.set {g i : Nat} {cs : Array Value} {t : TypeId} {fr : Nat × Nat} (hg : w.heap[g]? = some (.cells cs t fr)) (ht : t ≠ 37) (hB : B <= g) (v : Value) : Bel B w (w.setCell ⟨g, i, none⟩ v) :=
 ⟨(zaj.setCell (f := fun k => k = g) (zaj.refl _ _) (p := ⟨g, i, none⟩) (fun _ => rfl) v).below (Nat.le_of_lt (Nat.lt_of_le_of_lt hB (zaa hg))) (fun q e => by have e' : q = g := e; omega), StK.set hg ht v⟩
theorem Bel.unt {g k cap i : Nat} {us : List Int} (h : w.ownsRow B 3 1 (.slice (some ⟨g, 0, none⟩) k cap) us.length (us.map (int i64))) (v : Value) : Bel B w (w.setCell ⟨g, i, none⟩ v) := by
 obtain ⟨cur, hc⟩ := zbv h (k := g) rfl
 exact Bel.set hc (by decide) (h.lt g rfl).1 v
end
theorem rstill_d {P : Program} {id : Nat} {Q : Exit -> Act -> World -> Prop} {a : Act} {w : World} {l : List Oper} (hm : P.follows .mixedOrders = true) (hB : Region.lexB .any l.toArray = true) (h : wpStill P l.toArray w.drew (fun a' => Q .normal a' w.drew) l a) : (Code.region id l.toArray true).wp P Q a w := wp_region_still_lit hm hB h
theorem rstill_skip {P : Program} {ops : Array Oper} {w : World} {Q : Act -> Prop} {o : Oper} {rest : List Oper} {a : Act} (h : Region.wanted o (yielded ops a.tmps) = false) (hr : wpStill P ops w Q rest (a.put o.dst undef)) : wpStill P ops w Q (o :: rest) a := by
 unfold wpStill
 rw [h]
 exact hr
section
variable {w : World} {B : Nat} {s : Shp} {c : Cf} {ep : Int} {m : MS} {sn : Int} {ns : List Nm} {ks : List Tok} {us : List Int}
theorem zbn.more (h : zbn w B s c ep m sn ns ks us) : w.cell? ⟨s.p, 5, none⟩ = some (int i64 c.wi) /\ w.cell? ⟨s.p, 6, none⟩ = some (int i64 c.ke) := by
 constructor <;> rw [zab h.head] <;> rfl
theorem zbn.tiers (h : zbn w B s c ep m sn ns ks us) (hc : c.ok) : ∃ b off cap, s.ct = .slice (some ⟨b, off, none⟩) c.n cap /\ b < w.heap.size /\ ∀ i, i < c.n -> w.cell? ⟨b, off + i * 3, none⟩ = some (int i64 (c.F i)) /\ w.cell? ⟨b, off + i * 3 + 1, none⟩ = some (int i64 (c.W i)) /\ w.cell? ⟨b, off + i * 3 + 2, none⟩ = some (int i64 (c.K i)) := by
 obtain ⟨a, cap, hct⟩ := zbt h.crow
 have hr := h.crow
 rw [hct] at hr
 obtain ⟨b, off, rfl, hbl, hcl⟩ := TS.of_owns hr (by have := hc.n1; omega)
 exact ⟨b, off, cap, hct, hbl, hcl⟩
set_option maxRecDepth 8000 in
set_option maxHeartbeats 1000000 in
theorem swidth_any (h : zbn w B s c ep m sn ns ks us) (hc : c.ok) (t : Int) (h1 : -1 <= t) (h2 : t < c.n) :
  Calls Tryz.prog 66 #[.pointer (some ⟨s.p, 0, none⟩), int i64 t] w fun e w' => e = .returned (int i64 (c.width t)) /\ w' = w := by
 have hl := h.lt
 obtain ⟨m5, m6⟩ := h.more
 have hn4 := hc.n4
 by_cases ht : t = -1
 ·subst ht
  have e : c.width (-1) = c.wi := by unfold Cf.width zbp; rw [if_pos rfl]
  rw [e]
  clear h hc e
  go_enter Tryz.func66, Tryz.ntmps66
  go_wp2_with fail
  go_ret
  exact ⟨rfl, rfl⟩
 ·obtain ⟨k, rfl⟩ : ∃ k : Nat, t = k := ⟨t.toNat, by omega⟩
  rw [width_nat]
  obtain ⟨b, off, cap, hct, hbl, hcl⟩ := h.tiers hc
  obtain ⟨-, -, -, -, -, c8, -⟩ := h.cells
  rw [hct] at c8
  obtain ⟨-, g1, -⟩ := hcl k (by omega)
  clear h hc hct hcl ht
  go_enter Tryz.func66, Tryz.ntmps66
  go_wp2_with fail
  go_ret
  exact ⟨rfl, rfl⟩
set_option maxRecDepth 8000 in
set_option maxHeartbeats 1000000 in
theorem skeep_any (h : zbn w B s c ep m sn ns ks us) (hc : c.ok) (t : Int) (h1 : -1 <= t) (h2 : t < c.n) :
  Calls Tryz.prog 67 #[.pointer (some ⟨s.p, 0, none⟩), int i64 t] w fun e w' => e = .returned (int i64 (c.keep t)) /\ w' = w := by
 have hl := h.lt
 obtain ⟨m5, m6⟩ := h.more
 have hn4 := hc.n4
 by_cases ht : t = -1
 ·subst ht
  have e : c.keep (-1) = c.ke := by unfold Cf.keep; rw [if_pos rfl]
  rw [e]
  clear h hc e
  go_enter Tryz.func67, Tryz.ntmps67
  go_wp2_with fail
  go_ret
  exact ⟨rfl, rfl⟩
 ·obtain ⟨k, rfl⟩ : ∃ k : Nat, t = k := ⟨t.toNat, by omega⟩
  have e : c.keep (k : Int) = c.K k := by unfold Cf.keep; rw [if_neg ht]; simp
  rw [e]
  obtain ⟨b, off, cap, hct, hbl, hcl⟩ := h.tiers hc
  obtain ⟨-, -, -, -, -, c8, -⟩ := h.cells
  rw [hct] at c8
  obtain ⟨-, -, g2⟩ := hcl k (by omega)
  clear h hc hct hcl ht e
  go_enter Tryz.func67, Tryz.ntmps67
  go_wp2_with fail
  go_ret
  exact ⟨rfl, rfl⟩
end
def cutT (n : Int) (t : Nat) (us : List Int) : List Int := (us.take t).map (cutU n) ++ us.drop t
theorem cutT_len (n : Int) (t : Nat) (us : List Int) : (cutT n t us).length = us.length := by unfold cutT; simp; omega
theorem cutT_zero (n : Int) (us : List Int) : cutT n 0 us = us := by simp [cutT]
theorem cutT_all (n : Int) (us : List Int) : cutT n us.length us = us.map (cutU n) := by simp [cutT]
theorem cutT_at (n : Int) (t : Nat) (us : List Int) (ht : t < us.length) : (cutT n t us)[t]? = us[t]? := by
 unfold cutT
 rw [List.getElem?_append_right (by simp; omega)]
 simp [Nat.min_eq_left (Nat.le_of_lt ht)]
theorem cutT_succ (n : Int) (t : Nat) (us : List Int) (ht : t < us.length) : cutT n (t + 1) us = (cutT n t us).set t (cutU n us[t]) := by
 apply List.ext_getElem?
 intro i
 rw [List.getElem?_set, cutT_len]
 have e1 : ∀ t' i, t' <= us.length -> (cutT n t' us)[i]? = if i < t' then us[i]?.map (cutU n) else us[i]? := fun t' i h' => by
  unfold cutT
  by_cases hi : i < t'
  ·rw [List.getElem?_append_left (by simp; omega), if_pos hi, List.getElem?_map, List.getElem?_take_of_lt hi]
  ·rw [List.getElem?_append_right (by simp; omega), if_neg hi]
   simp [Nat.min_eq_left h']
   congr 1
   omega
 rw [e1 _ _ (by omega), e1 _ _ (by omega)]
 by_cases hi : t = i
 ·subst hi
  rw [if_pos (by omega), if_pos rfl, if_pos ht]
  simp [ht]
 ·rw [if_neg hi]
  by_cases h2 : i < t
  ·rw [if_pos (by omega), if_pos h2]
  ·rw [if_neg (by omega), if_neg h2]
theorem cutU_low {n u : Int} (h : u <= n) : cutU n u = 0 := by unfold cutU; rw [if_pos h]
theorem cutU_high {n u : Int} (h : ¬ u <= n) : cutU n u = u := by unfold cutU; rw [if_neg h]
theorem set_self {l : List Int} {t : Nat} {u : Int} (h : l[t]? = some u) : l.set t u = l := by
 apply List.ext_getElem?
 intro i
 rw [List.getElem?_set]
 split
 ·rename_i e; subst e
  obtain ⟨hl, he⟩ := List.getElem?_eq_some_iff.1 h
  rw [if_pos hl, h]
 ·rfl
theorem kept_set0' (w : World) (g i : Nat) (v : Value) : zaj (fun k => k = g) w (w.setCell ⟨g, i, none⟩ v) := zaj.setCell (f := fun k => k = g) (zaj.refl _ _) (p := ⟨g, i, none⟩) (fun _ => rfl) v
section
variable {w : World} {B p : Nat} {c : Cf} {ep : Int} {m : MS} {ns : List Nm} {j : Nat}
theorem Shop.size (h : Shop w B p c ep m ns j) : B <= w.heap.size := by
 obtain ⟨s, k, rfl, h2, _⟩ := h
 have := h2.lo; have := h2.lt; omega
end
set_option maxRecDepth 20000 in
set_option maxHeartbeats 4000000 in
theorem stick_late {w : World} {B p : Nat} {c : Cf} {ep : Int} {m : MS} {ns : List Nm} {j : Nat} (hs : Shop w B p c ep m ns j) (n : Int) (hn : 1 <= n /\ n <= 1000) (hl : 100000 < m.now + n) :
  Calls Tryz.prog 15 #[.pointer (some ⟨p, 0, none⟩), int i64 n] w fun e w' => e = .returned (.bool true) /\ Below w.heap.size w w' := by
 obtain ⟨s, k, rfl, h, hk, ho, _⟩ := hs
 obtain ⟨c0, _, _, _, _, _, c9, _⟩ := h.cells
 have hpl := h.lt
 have hnow := ho.ok.now
 have HT := fun W (hW : Below w.heap.size w W) => zac (mtick_bad (h.later hW).mill n (.inr (.inr hl)) hnow)
 obtain ⟨hn1, hn2⟩ := hn
 obtain ⟨hw1, hw2⟩ := hnow
 clear h ho
 go_enter Tryz.func15, Tryz.ntmps15
 go_wp2_with (first | (go_at_call 36; refine (ud (HT _ (Below.refl _ _))).mono ?_; rintro e w1 ⟨rfl, hb1⟩; have d9 := (hb1.cell (p := ⟨s.p, 9, none⟩) hpl).trans c9; have hpl1 := Nat.lt_of_lt_of_le hpl hb1.size; have HB1 := zac hb1; clear hb1))
 go_ret
 exact ⟨rfl, ud HB1⟩
set_option maxRecDepth 20000 in
set_option maxHeartbeats 4000000 in
theorem stick_good {w : World} {B p : Nat} {c : Cf} {ep : Int} {m : MS} {ns : List Nm} {j : Nat} (hs : Shop w B p c ep m ns j) (hc : c.ok) (hf : c.fits) (n : Int) (hn : 1 <= n /\ n <= 1000) (hl : m.now + n <= 100000) (hj : j <= 4398046511104) :
  Calls Tryz.prog 15 #[.pointer (some ⟨p, 0, none⟩), int i64 n] w fun e w' => e = .returned (.bool true) /\ ∃ m', Act1 c ep m ns m' ns /\ Shop w' B p c ep m' ns j /\ Bel B w w' := by
 have hsz := hs.size
 obtain ⟨⟨sp, si, sd, sct, snv, skv, suv⟩, k, rfl, h, hk, ho, hkj, hnj⟩ := hs
 dsimp only at *
 obtain ⟨c0, _, _, _, _, _, c9, _, _, c12⟩ := h.cells
 have hpl := h.lt
 have hnow := ho.ok.now
 obtain ⟨ua, uc, hua⟩ := zbt h.urow
 rw [zbk] at hua
 dsimp only at hua c0 c9 c12 hpl
 subst hua
 have HT := zac (mtick_good h.mill hc n hn ⟨hnow.1, hl⟩ (ho.ok.binv hc) ho.ok.seg.inr (by have := ho.ok.seg.len400 hc; omega) (fun T Q he => by
  have h9 := (exps_ok (ep := ep) (c := c) (L := m.L) (num := m.num) (show m.now <= m.now + n by omega) ho.ok.tasks ho.ok.nt ho.ok.leas ho.ok.nq ho.ok.jobs he)
  have h8 := nodup_le (zas T) (zas m.TL) h9.2.1 (fun x hx => (h9.2.2.2.2.2.2.2 x).1 hx)
  have h7 := ho.ok.t800 hc
  simp [zas] at h8
  omega))
 have hd : decide (100000 < m.now + n) = false := by simp; omega
 have hwr : IntKind.i64.wrap (m.now + n) = m.now + n := by rw [IntKind.wrap_i64]; omega
 have H := zac h
 have HO := zac ho
 obtain ⟨hn1, hn2⟩ := hn
 obtain ⟨hw1, hw2⟩ := hnow
 clear h ho c12
 go_enter Tryz.func15, Tryz.ntmps15
 go_wp2_with (first | (go_at_call 36; refine (ud HT).mono ?_; rintro e w1 ⟨rfl, TL1, QL1, TL', hM, hK, he, hq, hp⟩; have hS1 := (ud H).putMill hM hK; have hS2 := hS1.setNow (m.now + n); have d9 := (hS1.cells).2.2.2.2.2.2.1; dsimp only at d9; have df := fun j => zax hS1.head j; have hpl1 := hS1.lt; dsimp only at hpl1 df; have HS2 := zac hS2; have HA := zac (Act1.ticked (c := c) (ep := ep) m ns n TL1 TL' QL1 hn1 hl he hq hp); have HU := zac (((ud HO).tick hc hf hn1 hl he hq hp).2 k); have HK := zac (Bel.mill (ud H).mill hK hsz (ud H).mlo); have HH1 := zac hS1.head; clear hM hK he hq hp hS1 hS2))
 have hsp : B <= sp := (ud H).lo
 have hst : zbn (w1.setCell ⟨sp, 9, none⟩ (int i64 (m.now + n))) B ⟨sp, si, sd, sct, snv, skv, .slice ua k uc⟩ c ep { m with now := m.now + n, TL := TL', QL := QL1 } (m.now + n) ns (tokL ep k) (cutT (m.now + n) 0 (zdy ep m.QL k)) := by rw [cutT_zero]; exact ud HS2
 have hbs : Bel B w (w1.setCell ⟨sp, 9, none⟩ (int i64 (m.now + n))) := (ud HK).trans (Bel.set (ud HH1) (by decide) hsp _)
 have HST := zac hst
 have HBS := zac hbs
 have hul := zbk ep m.QL k
 have HUL := zac hul
 clear hst hbs d9 df hpl1 c0 c9 hpl HS2 HT hul
 go_loopw [6] (fun y wr => ∃ (t : Nat), t <= k /\ y = int i64 t /\ zbn wr B ⟨sp, si, sd, sct, snv, skv, .slice ua k uc⟩ c ep { m with now := m.now + n, TL := TL', QL := QL1 } (m.now + n) ns (tokL ep k) (cutT (m.now + n) t (zdy ep m.QL k)) /\ Bel B w wr) (fun y _ => k - (intOf y).toNat)
 case atStart => exact ⟨0, Nat.zero_le _, rfl, ud HST, ud HBS⟩
 case round =>
  obtain ⟨t, htk, rfl, hS, hb⟩ := hrel
  obtain ⟨-, -, -, -, -, -, e9, -, -, e12⟩ := hS.cells
  dsimp only at e9 e12
  have hpr := hS.lt
  dsimp only at hpr
  have hki : (k : Int) <= 4398046511104 := by omega
  by_cases hlt : t < k
  ·have hlti : (t : Int) < k := by omega
   have hcl := cutT_len (m.now + n) t (zdy ep m.QL k)
   rw [ud HUL] at hcl
   obtain ⟨g, gc, hgv, hgl, hgc, hgf⟩ := unt_form hS.urow (j := t) (by rw [hcl]; exact hlt)
   rw [hcl] at hgv
   dsimp only at hgv
   cases hgv
   have hat : (cutT (m.now + n) t (zdy ep m.QL k))[t]? = some (untM m.QL ⟨ep, (t : Int) + 1⟩) := by rw [cutT_at _ _ _ (by rw [ud HUL]; exact hlt), untL_at _ _ _ _ hlt]
   have hu : (cutT (m.now + n) t (zdy ep m.QL k))[t]'(by rw [hcl]; exact hlt) = untM m.QL ⟨ep, (t : Int) + 1⟩ := by have := List.getElem?_eq_some_iff.1 hat; exact this.2
   rw [hu] at hgc
   have hsucc : cutT (m.now + n) (t + 1) (zdy ep m.QL k) = (cutT (m.now + n) t (zdy ep m.QL k)).set t (cutU (m.now + n) (untM m.QL ⟨ep, (t : Int) + 1⟩)) := by
    rw [cutT_succ _ _ _ (by rw [ud HUL]; exact hlt)]
    congr 2
    have := List.getElem?_eq_some_iff.1 (untL_at ep m.QL k t hlt)
    exact this.2
   have HSUC := zac hsucc
   have HAT := zac hat
   have HSS := zac hS
   have hset := hS.setUnt (g := g) (cap := uc) (by rw [hcl]) t 0
   have HSET := zac hset
   have hbg : B <= g := (hS.urow.lt g rfl).1
   have HBW := zac hb
   have hgp : ¬ g = sp := zar hS.head hS.urow (by decide) g rfl
   have hgp' : ¬ sp = g := fun e => hgp e.symm
   clear hS hcl hsucc hat hset hu hb
   generalize untM m.QL ⟨ep, (t : Int) + 1⟩ = u at *
   by_cases hle : u <= m.now + n
   ·go_wp2_with fail
    go_still (by kernel_rfl)
    go_wp2_with fail
    go_roundw
    case rel =>
     refine ⟨t + 1, by omega, by go_num, ?_, ((ud HBW).trans (Bel.unt (ud HSS).urow _)).drew⟩
     rw [ud HSUC, cutU_low hle]
     exact (ud HSET).later (Below.refl _ _).drew
    case measure => simp [intOf]; omega
   ·have hled : decide (u <= m.now + n) = false := by simpa using hle
    go_wp2_with fail
    go_still (by kernel_rfl)
    go_wp2_with fail
    go_roundw
    case rel =>
     refine ⟨t + 1, by omega, by go_num, ?_, (ud HBW).drew⟩
     rw [ud HSUC, cutU_high (by omega), set_self (ud HAT)]
     exact (ud HSS).later (Below.refl _ _).drew
    case measure => simp [intOf]; omega
  ·have hltd : decide ((t : Int) < k) = false := by simp; omega
   have HSS := zac hS
   clear hS
   go_wp2_with fail
   go_ret
   have ht : t = k := by omega
   subst ht
   have h9 := ud HSS
   have h8 : cutT (m.now + n) t (zdy ep m.QL t) = zdy ep QL1 t := by
    have e1 := cutT_all (m.now + n) (zdy ep m.QL t)
    rw [ud HUL] at e1
    rw [e1, ud HU]
   rw [h8] at h9
   exact ⟨rfl, _, ud HA, ⟨_, t, rfl, h9, hk, (ud HA).ok hc hf (ud HO), hkj, hnj⟩, hb⟩
set_option maxRecDepth 20000 in
set_option maxHeartbeats 4000000 in
theorem stick_now {w : World} {B p : Nat} {c : Cf} {ep : Int} {m : MS} {ns : List Nm} {j : Nat} (hs : Shop w B p c ep m ns j) (hc : c.ok) (hf : c.fits) (n : Int) (hn : 1 <= n /\ n <= 1000) (hl : m.now + n <= 100000) (hj : j <= 4398046511104) :
  Calls Tryz.prog 15 #[.pointer (some ⟨p, 0, none⟩), int i64 n] w fun e w' => e = .returned (.bool true) /\ ∃ m', Act1 c ep m ns m' ns /\ m'.now = m.now + n /\ Shop w' B p c ep m' ns j /\ Bel B w w' := by
 have hsz := hs.size
 obtain ⟨⟨sp, si, sd, sct, snv, skv, suv⟩, k, rfl, h, hk, ho, hkj, hnj⟩ := hs
 dsimp only at *
 obtain ⟨c0, _, _, _, _, _, c9, _, _, c12⟩ := h.cells
 have hpl := h.lt
 have hnow := ho.ok.now
 obtain ⟨ua, uc, hua⟩ := zbt h.urow
 rw [zbk] at hua
 dsimp only at hua c0 c9 c12 hpl
 subst hua
 have HT := zac (mtick_good h.mill hc n hn ⟨hnow.1, hl⟩ (ho.ok.binv hc) ho.ok.seg.inr (by have := ho.ok.seg.len400 hc; omega) (fun T Q he => by
  have h9 := (exps_ok (ep := ep) (c := c) (L := m.L) (num := m.num) (show m.now <= m.now + n by omega) ho.ok.tasks ho.ok.nt ho.ok.leas ho.ok.nq ho.ok.jobs he)
  have h8 := nodup_le (zas T) (zas m.TL) h9.2.1 (fun x hx => (h9.2.2.2.2.2.2.2 x).1 hx)
  have h7 := ho.ok.t800 hc
  simp [zas] at h8
  omega))
 have hd : decide (100000 < m.now + n) = false := by simp; omega
 have hwr : IntKind.i64.wrap (m.now + n) = m.now + n := by rw [IntKind.wrap_i64]; omega
 have H := zac h
 have HO := zac ho
 obtain ⟨hn1, hn2⟩ := hn
 obtain ⟨hw1, hw2⟩ := hnow
 clear h ho c12
 go_enter Tryz.func15, Tryz.ntmps15
 go_wp2_with (first | (go_at_call 36; refine (ud HT).mono ?_; rintro e w1 ⟨rfl, TL1, QL1, TL', hM, hK, he, hq, hp⟩; have hS1 := (ud H).putMill hM hK; have hS2 := hS1.setNow (m.now + n); have d9 := (hS1.cells).2.2.2.2.2.2.1; dsimp only at d9; have df := fun j => zax hS1.head j; have hpl1 := hS1.lt; dsimp only at hpl1 df; have HS2 := zac hS2; have HA := zac (Act1.ticked (c := c) (ep := ep) m ns n TL1 TL' QL1 hn1 hl he hq hp); have HU := zac (((ud HO).tick hc hf hn1 hl he hq hp).2 k); have HK := zac (Bel.mill (ud H).mill hK hsz (ud H).mlo); have HH1 := zac hS1.head; clear hM hK he hq hp hS1 hS2))
 have hsp : B <= sp := (ud H).lo
 have hst : zbn (w1.setCell ⟨sp, 9, none⟩ (int i64 (m.now + n))) B ⟨sp, si, sd, sct, snv, skv, .slice ua k uc⟩ c ep { m with now := m.now + n, TL := TL', QL := QL1 } (m.now + n) ns (tokL ep k) (cutT (m.now + n) 0 (zdy ep m.QL k)) := by rw [cutT_zero]; exact ud HS2
 have hbs : Bel B w (w1.setCell ⟨sp, 9, none⟩ (int i64 (m.now + n))) := (ud HK).trans (Bel.set (ud HH1) (by decide) hsp _)
 have HST := zac hst
 have HBS := zac hbs
 have hul := zbk ep m.QL k
 have HUL := zac hul
 clear hst hbs d9 df hpl1 c0 c9 hpl HS2 HT hul
 go_loopw [6] (fun y wr => ∃ (t : Nat), t <= k /\ y = int i64 t /\ zbn wr B ⟨sp, si, sd, sct, snv, skv, .slice ua k uc⟩ c ep { m with now := m.now + n, TL := TL', QL := QL1 } (m.now + n) ns (tokL ep k) (cutT (m.now + n) t (zdy ep m.QL k)) /\ Bel B w wr) (fun y _ => k - (intOf y).toNat)
 case atStart => exact ⟨0, Nat.zero_le _, rfl, ud HST, ud HBS⟩
 case round =>
  obtain ⟨t, htk, rfl, hS, hb⟩ := hrel
  obtain ⟨-, -, -, -, -, -, e9, -, -, e12⟩ := hS.cells
  dsimp only at e9 e12
  have hpr := hS.lt
  dsimp only at hpr
  have hki : (k : Int) <= 4398046511104 := by omega
  by_cases hlt : t < k
  ·have hlti : (t : Int) < k := by omega
   have hcl := cutT_len (m.now + n) t (zdy ep m.QL k)
   rw [ud HUL] at hcl
   obtain ⟨g, gc, hgv, hgl, hgc, hgf⟩ := unt_form hS.urow (j := t) (by rw [hcl]; exact hlt)
   rw [hcl] at hgv
   dsimp only at hgv
   cases hgv
   have hat : (cutT (m.now + n) t (zdy ep m.QL k))[t]? = some (untM m.QL ⟨ep, (t : Int) + 1⟩) := by rw [cutT_at _ _ _ (by rw [ud HUL]; exact hlt), untL_at _ _ _ _ hlt]
   have hu : (cutT (m.now + n) t (zdy ep m.QL k))[t]'(by rw [hcl]; exact hlt) = untM m.QL ⟨ep, (t : Int) + 1⟩ := by have := List.getElem?_eq_some_iff.1 hat; exact this.2
   rw [hu] at hgc
   have hsucc : cutT (m.now + n) (t + 1) (zdy ep m.QL k) = (cutT (m.now + n) t (zdy ep m.QL k)).set t (cutU (m.now + n) (untM m.QL ⟨ep, (t : Int) + 1⟩)) := by
    rw [cutT_succ _ _ _ (by rw [ud HUL]; exact hlt)]
    congr 2
    have := List.getElem?_eq_some_iff.1 (untL_at ep m.QL k t hlt)
    exact this.2
   have HSUC := zac hsucc
   have HAT := zac hat
   have HSS := zac hS
   have hset := hS.setUnt (g := g) (cap := uc) (by rw [hcl]) t 0
   have HSET := zac hset
   have hbg : B <= g := (hS.urow.lt g rfl).1
   have HBW := zac hb
   have hgp : ¬ g = sp := zar hS.head hS.urow (by decide) g rfl
   have hgp' : ¬ sp = g := fun e => hgp e.symm
   clear hS hcl hsucc hat hset hu hb
   generalize untM m.QL ⟨ep, (t : Int) + 1⟩ = u at *
   by_cases hle : u <= m.now + n
   ·go_wp2_with fail
    go_still (by kernel_rfl)
    go_wp2_with fail
    go_roundw
    case rel =>
     refine ⟨t + 1, by omega, by go_num, ?_, ((ud HBW).trans (Bel.unt (ud HSS).urow _)).drew⟩
     rw [ud HSUC, cutU_low hle]
     exact (ud HSET).later (Below.refl _ _).drew
    case measure => simp [intOf]; omega
   ·have hled : decide (u <= m.now + n) = false := by simpa using hle
    go_wp2_with fail
    go_still (by kernel_rfl)
    go_wp2_with fail
    go_roundw
    case rel =>
     refine ⟨t + 1, by omega, by go_num, ?_, (ud HBW).drew⟩
     rw [ud HSUC, cutU_high (by omega), set_self (ud HAT)]
     exact (ud HSS).later (Below.refl _ _).drew
    case measure => simp [intOf]; omega
  ·have hltd : decide ((t : Int) < k) = false := by simp; omega
   have HSS := zac hS
   clear hS
   go_wp2_with fail
   go_ret
   have ht : t = k := by omega
   subst ht
   have h9 := ud HSS
   have h8 : cutT (m.now + n) t (zdy ep m.QL t) = zdy ep QL1 t := by
    have e1 := cutT_all (m.now + n) (zdy ep m.QL t)
    rw [ud HUL] at e1
    rw [e1, ud HU]
   rw [h8] at h9
   exact ⟨rfl, _, ud HA, rfl, ⟨_, t, rfl, h9, hk, (ud HA).ok hc hf (ud HO), hkj, hnj⟩, hb⟩
end Go.Proofs.YtpbimdkclnekeaaGreat
