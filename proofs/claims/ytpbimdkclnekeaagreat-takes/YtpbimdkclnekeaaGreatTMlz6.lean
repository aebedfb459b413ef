import Derived.Test.YtpbimdkclnekeaaGreatTMlz0
import Derived.Test.YtpbimdkclnekeaaGreatTPck2
import Derived.Test.YtpbimdkclnekeaaGreatTJn1
import Derived.Test.YtpbimdkclnekeaaGreatTZet7
import Derived.Test.YtpbimdkclnekeaaGreatTRefO

namespace Go.Proofs.YtpbimdkclnekeaaGreat
open Go.RowKit Go.Maps Go.Shelf
open Go.ChangeMaps (setBlock)
set_option linter.unusedVariables false
theorem z11 {w : World} {g : Nat} {a0 a1 a2 a3 a4 a5 a6 a7 a8 a9 a10 : Value} {t : TypeId} {fr : Nat × Nat} (h : w.heap[g]? = some (.cells #[a0, a1, a2, a3, a4, a5, a6, a7, a8, a9, a10] t fr)) : w.cell? ⟨g, 0, none⟩ = some a0 /\ w.cell? ⟨g, 1, none⟩ = some a1 /\ w.cell? ⟨g, 2, none⟩ = some a2 /\ w.cell? ⟨g, 3, none⟩ = some a3 /\ w.cell? ⟨g, 4, none⟩ = some a4 /\ w.cell? ⟨g, 5, none⟩ = some a5 /\ w.cell? ⟨g, 6, none⟩ = some a6 /\ w.cell? ⟨g, 7, none⟩ = some a7 /\ w.cell? ⟨g, 8, none⟩ = some a8 /\ w.cell? ⟨g, 9, none⟩ = some a9 /\ w.cell? ⟨g, 10, none⟩ = some a10 := by
 refine ⟨?_, ?_, ?_, ?_, ?_, ?_, ?_, ?_, ?_, ?_, ?_⟩ <;> rw [zac h] <;> rfl
theorem bel_d {X V : World} (h : Below X.drew.heap.size X.drew V) : Below X.heap.size X V := ⟨h.os, h.tape, h.output, h.size, h.block⟩
end Go.Proofs.YtpbimdkclnekeaaGreat

namespace Go.Proofs.YtpbimdkclnekeaaGreat
open Go.RowKit Go.Maps Go.Shelf
set_option linter.unusedVariables false
def Wt (L : LV) (s : Sg) : Prop := ∃ v, (s, v) ∈ L /\ v.st = 2
def Pub (L : LV) (s : Sg) : Prop := ∃ v, (s, v) ∈ L /\ v.st = 3
structure TskR (c : Cf) (now : Int) (L : LV) (ns : List Nm) (rl : Bool) (s : Sg) : Prop where
 roll : rl = true -> ∀ k : Nat, s.t = k -> ∀ x ∈ ns, zar c s.t x = s -> ¬ Wt L (zar c (c.F k) x)
 recl : rl = false -> (s.win + 1) * c.width s.t + c.keep s.t <= now /\ ∀ x ∈ ns, zar c s.t x = s -> ∀ k : Nat, k < c.n -> c.F k = s.t -> ¬ Wt L (zar c k x)
structure RInv (c : Cf) (m : MS) (ns : List Nm) : Prop where
 tm : ∀ x ∈ ns, 0 <= x.tm /\ x.tm <= m.now /\ 0 <= x.ser /\ x.ser < 4 /\ -2147483648 <= x.val /\ x.val <= 2147483647
 keys : ∀ x ∈ ns, ∀ t : Int, -1 <= t -> t < c.n -> zar c t x ∈ zam m.L \/ zar c t x ∈ zaj m.Gl
 has : ∀ s ∈ zam m.L, ∃ x ∈ ns, zar c s.t x = s
 gone : ∀ x ∈ ns, ∀ k : Nat, k < c.n -> zar c (c.F k) x ∈ zaj m.Gl -> zar c k x ∈ zaj m.Gl \/ Pub m.L (zar c k x)
 over : ∀ s ∈ zaj m.Gl, (s.win + 1) * c.width s.t + c.keep s.t <= m.now
 cell : ∀ p ∈ m.L, p.2.st ≠ 2 -> IsC (fun x => zar c p.1.t x = p.1) ns p.2.cl
 tasks : ∀ p ∈ m.TL, TskR c m.now m.L ns p.2.rl p.2.s
section
variable {c : Cf} {ep : Int} {m : MS} {ns : List Nm}
theorem mem_one {L : LV} (hn : (zam L).Nodup) {s : Sg} {u v : SV} (h : (s, u) ∈ L) (k : (s, v) ∈ L) : u = v := by
 have h1 : zbm L s = some u := zcg hn h
 have h2 : zbm L s = some v := zcg hn k
 rw [h1] at h2; injection h2
theorem key_of {L : LV} {p : Sg × SV} (h : p ∈ L) : p.1 ∈ zam L := List.mem_map.2 ⟨p, h, rfl⟩
theorem wt_stL {L : LV} (hn : (zam L).Nodup) {s : Sg} (h : Wt L s) : s ∈ zam L /\ (stL L s).st = 2 := by
 obtain ⟨v, hv, h2⟩ := h
 have hk := key_of hv
 have := zbf hk
 rw [mem_one hn this hv]
 exact ⟨hk, h2⟩
theorem width_nat (c : Cf) (k : Nat) : c.width (k : Int) = c.W k := by
 unfold Cf.width zbr
 rw [if_neg (by omega)]; simp
theorem seg_up (hc : c.ok) (hf : c.fits) {x : Nm} (hx : 0 <= x.tm) {k : Nat} (hk : k < c.n) : x.tm / c.width (c.F k) * c.width (c.F k) / c.W k = x.tm / c.W k := by
 obtain ⟨q, h1, hq⟩ := hf.quot k hk
 have hF := hf.down k hk
 have hw := (hc.width hF.1 (by omega)).1
 rw [hq, Int.mul_comm (x.tm / c.width (c.F k)), Int.mul_ediv_mul_of_pos _ _ (by omega), Int.ediv_ediv_of_nonneg (by omega)]
theorem hang_seg (hc : c.ok) (hf : c.fits) {x : Nm} (hx : 0 <= x.tm) {k : Nat} (hk : k < c.n) : zar c k x ∈ hangL c (zar c (c.F k) x) := by
 unfold hangL aboL
 rw [List.map_map]
 refine List.mem_map.2 ⟨k, List.mem_filter.2 ⟨by simpa using hk, by simp [zar]⟩, ?_⟩
 show (⟨(k : Int), x.ser, x.tm / c.width (c.F k) * c.width (c.F k) / c.W k⟩ : Sg) = zar c k x
 rw [seg_up hc hf hx hk]
 unfold zar; rw [width_nat]
theorem open_not_gone (hc : c.ok) (hm : MOk c ep m) {x : Nm} (hl : m.now - c.la <= x.tm) {t : Int} (h1 : -1 <= t) (h2 : t < c.n) : zar c t x ∉ zaj m.Gl := fun h => seg_open hc h1 h2 hl (hm.seg.goc _ h)
theorem open_not_pub (hc : c.ok) (hm : MOk c ep m) {x : Nm} (hl : m.now - c.la <= x.tm) {t : Int} (h1 : -1 <= t) (h2 : t < c.n) : ¬ Pub m.L (zar c t x) := fun ⟨v, hv, h3⟩ => seg_open hc h1 h2 hl (hm.seg.pubc _ hv h3)
theorem postR_mem {now : Int} : ∀ (ys : List Sg) {T : List (Jk × Tsk)} {p : Jk × Tsk}, p ∈ ys.foldl (zeg now) T -> p ∈ T \/ ∃ s ∈ ys, p.2.rl = true /\ p.2.s = s
 | [], T, p, h => .inl h
 | y :: ys, T, p, h => by
  rcases postR_mem ys h with h | ⟨s, hs, h⟩
  ·unfold zeg at h
   split at h
   ·exact .inl h
   ·rcases mem_putM h with rfl | ⟨h, _⟩
    ·exact .inr ⟨y, by simp, rfl, rfl⟩
    ·exact .inl h
  ·exact .inr ⟨s, by simp [hs], h⟩
theorem postC_mem {now : Int} : ∀ (ys : List Sg) {T : List (Jk × Tsk)} {p : Jk × Tsk}, p ∈ ys.foldl (zfj now) T -> p ∈ T \/ ∃ s ∈ ys, p.2.rl = false /\ p.2.s = s
 | [], T, p, h => .inl h
 | y :: ys, T, p, h => by
  rcases postC_mem ys h with h | ⟨s, hs, h⟩
  ·unfold zfj at h
   split at h
   ·exact .inl h
   ·rcases mem_putM h with rfl | ⟨h, _⟩
    ·exact .inr ⟨y, by simp, rfl, rfl⟩
    ·exact .inl h
  ·exact .inr ⟨s, by simp [hs], h⟩
theorem RInv.post (hc : c.ok) (hf : c.fits) (hsg : SegOk c m.now m.L m.Gl) (h : RInv c m ns) {TL' : List (Jk × Tsk)} (hp : zev c m TL') : RInv c { m with TL := TL' } ns := by
 obtain ⟨Bs, ys1, ys2, hB, h1, h2, rfl⟩ := hp.to
 refine ⟨h.tm, h.keys, h.has, h.gone, h.over, h.cell, fun p hp => ?_⟩
 rcases postC_mem ys2 hp with hp | ⟨s, hs, e1, e2⟩
 ·rcases postR_mem ys1 hp with hp | ⟨s, hs, e1, e2⟩
  ·exact h.tasks p hp
  ·rw [e1, e2]
   refine ⟨fun _ k hk x hx hxs hw => ?_, fun e => by cases e⟩
   obtain ⟨hs1, hr⟩ := (h1 s).1 hs
   obtain ⟨k1, k2⟩ := wt_stL hsg.nl hw
   have hkn : k < c.n := by
    have := (hsg.inr _ (zbf hs1)).2.2.1
    simp only at this
    omega
   have hin : s ∈ zaj Bs := (hB s).2 ⟨_, k1, k2, by
    have := hang_seg hc hf (h.tm x hx).1 hkn
    rw [<- hk, hxs] at this
    exact this⟩
   unfold rollB at hr
   simp only [Bool.and_eq_true, Option.isNone_iff_eq_none] at hr
   exact zcb.1 hr.1.1 hin
 ·rw [e1, e2]
  refine ⟨fun e => (by cases e), fun _ => ?_⟩
  obtain ⟨hs1, hr⟩ := (h2 s).1 hs
  have hin := hsg.inr _ (zbf hs1)
  unfold reclB at hr
  simp only [Bool.and_eq_true, Bool.not_eq_true', beq_eq_false_iff_ne, ne_eq, decide_eq_true_eq] at hr
  obtain ⟨⟨r1, r2⟩, r3⟩ := hr
  refine ⟨r2, fun x hx hxs k hk hFk hw => ?_⟩
  obtain ⟨k1, k2⟩ := wt_stL hsg.nl hw
  have hA : zar c k x ∈ hangL c s := by
   have := hang_seg hc hf (h.tm x hx).1 hk
   rw [hFk, hxs] at this
   exact this
  unfold hangsB at r3
  have h5 : ((hangW c s).filter (fun x => (stL m.L x.1).st == 2)).length = 0 := by
   have := of_decide_eq_true (show decide ((((hangW c s).filter (fun x => (stL m.L x.1).st == 2)).length : Int) = 0) = true from by simpa using r3)
   omega
  have hm := (hangW_mem hc hin (zar c k x)).2 hA
  obtain ⟨y, hy, ey⟩ := List.mem_map.1 hm
  have : y ∈ (hangW c s).filter (fun x => (stL m.L x.1).st == 2) := List.mem_filter.2 ⟨hy, by rw [ey]; simpa using k2⟩
  rw [List.eq_nil_of_length_eq_zero h5] at this; simp at this
theorem failed_mem {T : List (Jk × Tsk)} {k : Jk} {x : Tsk} {now : Int} (hx : zbm T k = some x) {p : Jk × Tsk} (hp : p ∈ zer T k (x.failed now)) : ∃ q ∈ T, q.2.rl = p.2.rl /\ q.2.s = p.2.s := by
 rcases mem_putM hp with rfl | ⟨hp, _⟩
 ·exact ⟨_, zat hx, rfl, rfl⟩
 ·exact ⟨p, hp, rfl, rfl⟩
theorem exps_mem {now : Int} {TL : List (Jk × Tsk)} {QL : List (Tok × Lse)} {T1 : List (Jk × Tsk)} {Q1 : List (Tok × Lse)} (h : Exps now TL QL T1 Q1) : ∀ p ∈ T1, ∃ q ∈ TL, q.2.rl = p.2.rl /\ q.2.s = p.2.s := by
 induction h with
 | nil => exact fun p hp => ⟨p, hp, rfl, rfl⟩
 | step h1 h2 h3 h4 ih =>
  intro p hp
  obtain ⟨q, hq, e1, e2⟩ := failed_mem h4 hp
  obtain ⟨r, hr, e3, e4⟩ := ih q hq
  exact ⟨r, hr, e3.trans e1, e4.trans e2⟩
theorem TskR.mono {now now' : Int} {L : LV} {rl : Bool} {s : Sg} (h : TskR c now L ns rl s) (hn : now <= now') : TskR c now' L ns rl s :=
 ⟨h.roll, fun e => ⟨by have := (h.recl e).1; omega, (h.recl e).2⟩⟩
theorem TskR.live {now : Int} {L L' : LV} {rl : Bool} {s : Sg} (h : TskR c now L ns rl s) (hw : ∀ y, Wt L' y -> Wt L y) : TskR c now L' ns rl s :=
 ⟨fun e k hk x hx hs hh => h.roll e k hk x hx hs (hw _ hh), fun e => ⟨(h.recl e).1, fun x hx hs k hk hF hh => (h.recl e).2 x hx hs k hk hF (hw _ hh)⟩⟩
theorem RInv.ticked (h : RInv c m ns) {now' : Int} (hn : m.now <= now') {T1 : List (Jk × Tsk)} {Q1 : List (Tok × Lse)} (ht : ∀ p ∈ T1, ∃ q ∈ m.TL, q.2.rl = p.2.rl /\ q.2.s = p.2.s) (num : Int) : RInv c { m with now := now', num := num, TL := T1, QL := Q1 } ns :=
 ⟨fun x hx => by have := h.tm x hx; exact ⟨this.1, by show x.tm <= now'; omega, this.2.2⟩, h.keys, h.has, h.gone, fun s hs => by have := h.over s hs; show _ <= now'; omega, h.cell, fun p hp => by
  obtain ⟨q, hq, e1, e2⟩ := ht p hp
  have := (h.tasks q hq).mono hn
  rw [e1, e2] at this; exact this⟩
end
def tkOf (QL : List (Tok × Lse)) (x : Tsk) : Tk := ⟨x.kd, x.s, x.since, x.tries, x.rest, (jobO QL x).1.ep, (jobO QL x).1.num, (jobO QL x).2.1, (jobO QL x).2.2⟩
def tskOf (k : Tk) : Tsk := ⟨decide (k.kind = 1), k.s, k.since, k.tries, k.rest⟩
theorem tskOf_of (QL : List (Tok × Lse)) (x : Tsk) : tskOf (tkOf QL x) = x := by
 obtain ⟨rl, s, a, b, d⟩ := x
 unfold tskOf tkOf
 cases rl <;> rfl
def zcf (TL : List (Jk × Tsk)) (QL : List (Tok × Lse)) (l : List Tk) : Prop := ∃ ts : List Tsk, ts.Perm (TL.map (·.2)) /\ ts.Pairwise (fun a b => ¬ byKeyV b a < 0) /\ l = ts.map (tkOf QL)
theorem zcf.mem {TL : List (Jk × Tsk)} {QL : List (Tok × Lse)} {l : List Tk} (h : zcf TL QL l) (k : Tk) : k ∈ l ↔ ∃ p ∈ TL, k = tkOf QL p.2 := by
 obtain ⟨ts, hp, -, rfl⟩ := h
 rw [List.mem_map]
 constructor
 ·rintro ⟨x, hx, rfl⟩
  obtain ⟨p, hp', rfl⟩ := List.mem_map.1 (hp.mem_iff.1 hx)
  exact ⟨p, hp', rfl⟩
 ·rintro ⟨p, hp', rfl⟩
  exact ⟨p.2, hp.mem_iff.2 (List.mem_map.2 ⟨p, hp', rfl⟩), rfl⟩
section
variable {c : Cf} {ep : Int} {m : MS} {r : RM}
end
theorem find_job {QL : List (Tok × Lse)} {x : Tsk} {q : Tok × Lse} (h : QL.find? (fun p => decide (p.2.job = x.key)) = some q) : q.2.job = x.key := by
 have := List.find?_some h
 exact of_decide_eq_true this
theorem jobO_some {QL : List (Tok × Lse)} (hj : (QL.map (fun q => q.2.job)).Nodup) {q : Tok × Lse} (hq : q ∈ QL) {x : Tsk} (e : q.2.job = x.key) : jobO QL x = (q.1, q.2.slot, q.2.til) := by
 unfold jobO
 cases hf : QL.find? (fun p => decide (p.2.job = x.key)) with
 | none => exact absurd (decide_eq_true e) (List.find?_eq_none.1 hf q hq)
 | some q' =>
  have h1 := List.mem_of_find?_eq_some hf
  have h2 : q'.2.job = x.key := find_job hf
  have : q' = q := nodup_map_eq hj q' h1 q hq (h2.trans e.symm)
  subst this
  rfl
theorem jobO_none {QL : List (Tok × Lse)} {x : Tsk} (h : ∀ q ∈ QL, q.2.job ≠ x.key) : jobO QL x = (⟨0, 0⟩, -1, 0) := by
 unfold jobO
 cases hf : QL.find? (fun p => decide (p.2.job = x.key)) with
 | none => rfl
 | some q => exact absurd (find_job hf) (h q (List.mem_of_find?_eq_some hf))
theorem jobO_cases (QL : List (Tok × Lse)) (x : Tsk) : (∃ q ∈ QL, q.2.job = x.key /\ jobO QL x = (q.1, q.2.slot, q.2.til)) \/ ((∀ q ∈ QL, q.2.job ≠ x.key) /\ jobO QL x = (⟨0, 0⟩, -1, 0)) := by
 unfold jobO
 cases hf : QL.find? (fun p => decide (p.2.job = x.key)) with
 | none => exact .inr ⟨fun q hq e => List.find?_eq_none.1 hf q hq (decide_eq_true e), rfl⟩
 | some q => exact .inl ⟨q, List.mem_of_find?_eq_some hf, find_job hf, rfl⟩
section
variable {c : Cf} {ep : Int} {m : MS} {r : RM}
theorem MOk.leased (hm : MOk c ep m) {q : Tok × Lse} (hq : q ∈ m.QL) : ∃ p ∈ m.TL, p.2.key = q.2.job /\ jobO m.QL p.2 = (q.1, q.2.slot, q.2.til) := by
 obtain ⟨x, hx, -⟩ := (hm.leas q hq).job
 have hp := zat hx
 have hk := (hm.tasks _ hp).key
 exact ⟨_, hp, hk.symm, jobO_some hm.jobs hq hk⟩
theorem holds_of (hs : ∀ q ∈ m.QL, 0 <= q.2.slot) (hj : (m.QL.map (fun q => q.2.job)).Nodup) (x : Tsk) (e n : Int) : (tkOf m.QL x).holds e n = true ↔ ∃ q ∈ m.QL, q.1 = ⟨e, n⟩ /\ q.2.job = x.key := by
 unfold Tk.holds tkOf
 simp only [Bool.and_eq_true, decide_eq_true_eq]
 rcases jobO_cases m.QL x with ⟨q, hq, hk, ej⟩ | ⟨hn, ej⟩
 ·rw [ej]
  simp only
  constructor
  ·rintro ⟨-, h1, h2⟩
   refine ⟨q, hq, ?_, hk⟩
   obtain ⟨⟨_, _⟩, _⟩ := q
   simp only at h1 h2 ⊢
   rw [h1, h2]
  ·rintro ⟨q', hq', h1, h2⟩
   have : q' = q := nodup_map_eq hj q' hq' q hq (h2.trans hk.symm)
   subst this
   exact ⟨hs q' hq', by rw [h1], by rw [h1]⟩
 ·rw [ej]
  simp only
  constructor
  ·rintro ⟨h, -⟩; omega
  ·rintro ⟨q', hq', -, h2⟩; exact absurd h2 (hn q' hq')
theorem lease_same (hm : MOk c ep m) (ht : zcf m.TL m.QL r.tasks) (hs : ∀ q ∈ m.QL, 0 <= q.2.slot) (e n : Int) {g : Lse} (h : zbm m.QL ⟨e, n⟩ = some g) {x : Tsk} (hx : zbm m.TL g.job = some x) : ∃ j, r.tasks.findIdx? (Tk.holds e n) = some j /\ r.tasks[j]? = some (tkOf m.QL x) := by
 have hq := zat h
 have hp := zat hx
 have hk := (hm.tasks _ hp).key
 have hh : (tkOf m.QL x).holds e n = true := (holds_of hs hm.jobs x e n).2 ⟨_, hq, rfl, hk⟩
 cases hf : r.tasks.findIdx? (Tk.holds e n) with
 | none =>
  have := List.findIdx?_eq_none_iff.1 hf _ ((ht.mem _).2 ⟨_, hp, rfl⟩)
  rw [hh] at this; cases this
 | some j =>
  obtain ⟨hj, h1, -⟩ := List.findIdx?_eq_some_iff_getElem.1 hf
  refine ⟨j, rfl, ?_⟩
  obtain ⟨p', hp', e'⟩ := (ht.mem _).1 (List.getElem_mem hj)
  rw [e'] at h1
  obtain ⟨q', hq', h2, h3⟩ := (holds_of hs hm.jobs p'.2 e n).1 h1
  have h4 : zbm m.QL q'.1 = some q'.2 := zcg hm.nq hq'
  rw [h2, h] at h4
  injection h4 with h4
  have h5 : p'.1 = g.job := by rw [(hm.tasks p' hp').key, <- h3, h4]
  have h6 : zbm m.TL p'.1 = some p'.2 := zcg hm.nt hp'
  rw [h5, hx] at h6
  injection h6 with h6
  rw [List.getElem?_eq_getElem hj, e', h6]
end
theorem jobO_congr {QL QL' : List (Tok × Lse)} (h1 : (QL.map (fun q => q.2.job)).Nodup) (h2 : (QL'.map (fun q => q.2.job)).Nodup) {x : Tsk} (h : ∀ q, q.2.job = x.key -> (q ∈ QL ↔ q ∈ QL')) : jobO QL x = jobO QL' x := by
 rcases jobO_cases QL x with ⟨q, hq, hk, e⟩ | ⟨hn, e⟩
 ·rw [e, jobO_some h2 ((h q hk).1 hq) hk]
 ·rw [e, jobO_none (fun q hq hk => hn q ((h q hk).2 hq) hk)]
theorem tkOf_congr {QL QL' : List (Tok × Lse)} {x : Tsk} (h : jobO QL x = jobO QL' x) : tkOf QL x = tkOf QL' x := by
 unfold tkOf; rw [h]
theorem tkOf_inj {QL : List (Tok × Lse)} {x y : Tsk} (h : tkOf QL x = tkOf QL y) : x = y := by
 have := congrArg tskOf h
 rwa [tskOf_of, tskOf_of] at this
theorem modify_tasks {ts : List Tsk} (hnd : ts.Nodup) {QL QL' : List (Tok × Lse)} {j : Nat} {x x' : Tsk} (hj : (ts.map (tkOf QL))[j]? = some (tkOf QL x)) (f : Tk -> Tk) (hf : f (tkOf QL x) = tkOf QL' x') (ho : ∀ y ∈ ts, y ≠ x -> tkOf QL y = tkOf QL' y) : ts[j]? = some x /\ (ts.map (tkOf QL)).modify j f = (ts.set j x').map (tkOf QL') := by
 have hx : ts[j]? = some x := by
  rw [List.getElem?_map] at hj
  cases h : ts[j]? with
  | none => rw [h] at hj; cases hj
  | some y => rw [h] at hj; injection hj with hj; rw [tkOf_inj hj]
 refine ⟨hx, ?_⟩
 obtain ⟨hjl, hjx⟩ := List.getElem?_eq_some_iff.1 hx
 apply List.ext_getElem?
 intro i
 rw [List.getElem?_modify, List.getElem?_map, List.getElem?_map, List.getElem?_set]
 by_cases e : j = i
 ·subst e
  rw [hx]
  simp [hjl, hf]
 ·rw [if_neg e]
  cases hi : ts[i]? with
  | none => simp [e]
  | some y =>
   have hyx : y ≠ x := fun h => by
    subst h
    obtain ⟨hil, hiy⟩ := List.getElem?_eq_some_iff.1 hi
    exact e ((List.getElem_inj hnd).1 (hjx.trans hiy.symm))
   simp [e, ho y (List.mem_of_getElem? hi) hyx]
theorem nodup_of_map {α β : Type} {f : α -> β} : ∀ {l : List α}, (l.map f).Nodup -> l.Nodup
 | [], _ => List.nodup_nil
 | a :: l, h => by
  rw [List.map_cons, List.nodup_cons] at h
  exact List.nodup_cons.2 ⟨fun hm => h.1 (List.mem_map.2 ⟨a, hm, rfl⟩), nodup_of_map h.2⟩
theorem zcf.nodup {c : Cf} {ep : Int} {m : MS} (hm : MOk c ep m) {ts : List Tsk} (hp : ts.Perm (m.TL.map (·.2))) : ts.Nodup := by
 rw [hp.nodup_iff]
 have h1 : ((m.TL.map (·.2)).map Tsk.key).Nodup := by
  rw [List.map_map]
  have e : m.TL.map (Tsk.key ∘ fun p : Jk × Tsk => p.2) = zaj m.TL := by
   unfold zaj
   apply List.map_congr_left
   intro p hp
   exact (hm.tasks p hp).key.symm
  rw [e]; exact hm.nt
 exact nodup_of_map h1
theorem zcf.taken {c : Cf} {ep : Int} {m : MS} {l : List Tk} (hm : MOk c ep m) (h : zcf m.TL m.QL l) {QL' : List (Tok × Lse)} (h2 : (QL'.map (fun q => q.2.job)).Nodup) {t : Tok} {p : Jk × Tsk} (hp : p ∈ m.TL) {slot til : Int} (hn : ∀ q ∈ m.QL, q.2.job ≠ p.2.key) (hq : ∀ q, q ∈ QL' ↔ q = (t, ⟨p.2.kd, p.2.s, slot, til⟩) \/ q ∈ m.QL) {j : Nat} (hj : l[j]? = some (tkOf m.QL p.2)) : zcf m.TL QL' (l.modify j (Tk.leased t.ep t.num slot til)) := by
 obtain ⟨ts, hpm, hs, rfl⟩ := h
 have hkey : (⟨p.2.kd, p.2.s, slot, til⟩ : Lse).job = p.2.key := rfl
 have hme : jobO QL' p.2 = (t, slot, til) := jobO_some h2 (q := (t, ⟨p.2.kd, p.2.s, slot, til⟩)) ((hq _).2 (.inl rfl)) hkey
 obtain ⟨hx, he⟩ := modify_tasks (QL' := QL') (x' := p.2) (zcf.nodup hm hpm) hj (Tk.leased t.ep t.num slot til) (by unfold Tk.leased tkOf; rw [hme]) (fun y hy hne => tkOf_congr (jobO_congr hm.jobs h2 (fun q hk => by
  rw [hq]
  constructor
  ·exact .inr
  ·rintro (rfl | h)
   ·exfalso
    obtain ⟨p', hp', rfl⟩ := List.mem_map.1 (hpm.mem_iff.1 hy)
    have ek : p'.1 = p.1 := by rw [(hm.tasks p' hp').key, (hm.tasks p hp).key]; exact hk.symm
    have e3 : zbm m.TL p.1 = some p.2 := zcg hm.nt hp
    have e4 : zbm m.TL p'.1 = some p'.2 := zcg hm.nt hp'
    rw [ek, e3] at e4
    injection e4 with e4
    exact hne e4.symm
   ·exact h)))
 rw [he]
 obtain ⟨hjl, hjx⟩ := List.getElem?_eq_some_iff.1 hx
 have hset : ts.set j p.2 = ts := by rw [<- hjx]; exact List.set_getElem_self hjl
 rw [hset]
 exact ⟨ts, hpm, hs, rfl⟩
def swapT (x x' z : Tsk) : Tsk := if z.key = x.key then x' else z
theorem swap_key {x x' : Tsk} (h : x'.kd = x.kd /\ x'.s = x.s) (z : Tsk) : (swapT x x' z).kd = z.kd /\ (swapT x x' z).s = z.s := by
 unfold swapT
 split
 ·rename_i e
  unfold Tsk.key at e
  injection e with e1 e2
  exact ⟨h.1.trans e1.symm, h.2.trans e2.symm⟩
 ·exact ⟨rfl, rfl⟩
theorem swap_set {ts : List Tsk} (hnd : (ts.map Tsk.key).Nodup) {j : Nat} {x x' : Tsk} (hx : ts[j]? = some x) : ts.set j x' = ts.map (swapT x x') := by
 obtain ⟨hjl, hjx⟩ := List.getElem?_eq_some_iff.1 hx
 apply List.ext_getElem?
 intro i
 rw [List.getElem?_set, List.getElem?_map]
 by_cases e : j = i
 ·subst e
  rw [hx]
  simp [hjl, swapT]
 ·rw [if_neg e]
  cases hi : ts[i]? with
  | none => rfl
  | some y =>
   have hne : ¬ y.key = x.key := fun h => by
    obtain ⟨hil, hiy⟩ := List.getElem?_eq_some_iff.1 hi
    have a1 : (ts.map Tsk.key)[j]'(by simpa using hjl) = (ts.map Tsk.key)[i]'(by simpa using hil) := by simp [hjx, hiy, h]
    exact e ((List.getElem_inj hnd).1 a1)
   simp [swapT, hne]
theorem zcf.failed {c : Cf} {ep : Int} {m : MS} {l : List Tk} (hm : MOk c ep m) (h : zcf m.TL m.QL l) {k : Jk} {x x' : Tsk} (hx : zbm m.TL k = some x) (hk' : x'.kd = x.kd /\ x'.s = x.s) {QL' : List (Tok × Lse)} (h2 : (QL'.map (fun q => q.2.job)).Nodup) (hq : ∀ q, q ∈ QL' ↔ q ∈ m.QL /\ q.2.job ≠ x.key) (f : Tk -> Tk) (hf : f (tkOf m.QL x) = tkOf QL' x') {j : Nat} (hj : l[j]? = some (tkOf m.QL x)) : zcf (zer m.TL k x') QL' (l.modify j f) := by
 obtain ⟨ts, hpm, hs, rfl⟩ := h
 have hp := zat hx
 have hkx : k = x.key := (hm.tasks _ hp).key
 have hkn : (ts.map Tsk.key).Nodup := by
  have h1 : ((m.TL.map (·.2)).map Tsk.key).Nodup := by
   rw [List.map_map]
   have e : m.TL.map (Tsk.key ∘ fun p : Jk × Tsk => p.2) = zaj m.TL := by
    unfold zaj
    apply List.map_congr_left
    intro p hp
    exact (hm.tasks p hp).key.symm
   rw [e]; exact hm.nt
  exact ((hpm.map Tsk.key).nodup_iff).2 h1
 obtain ⟨hxj, he⟩ := modify_tasks (QL' := QL') (x' := x') (zcf.nodup hm hpm) hj f hf (fun y hy hne => tkOf_congr (jobO_congr hm.jobs h2 (fun q hk => by
  rw [hq]
  constructor
  ·refine fun h => ⟨h, fun e => ?_⟩
   apply hne
   exact nodup_map_eq hkn y hy x (hpm.mem_iff.2 (List.mem_map.2 ⟨_, hp, rfl⟩)) (hk.symm.trans e)
  ·exact fun h => h.1)))
 rw [he, swap_set hkn hxj]
 refine ⟨ts.map (swapT x x'), ?_, ?_, rfl⟩
 ·have e : (zer m.TL k x').map (·.2) = (m.TL.map (·.2)).map (swapT x x') := by
   unfold zer
   have hin : k ∈ zaj m.TL := List.mem_map.2 ⟨_, hp, rfl⟩
   rw [if_pos hin, List.map_map, List.map_map]
   apply List.map_congr_left
   intro p hp'
   have hpk := (hm.tasks p hp').key
   simp only [Function.comp, swapT]
   by_cases e : p.1 = k
   ·rw [if_pos e, if_pos (by rw [<- hpk, e, hkx])]
   ·rw [if_neg e, if_neg (fun h => e (by rw [hpk, h, hkx]))]
  rw [e]
  exact hpm.map _
 ·rw [List.pairwise_map]
  refine hs.imp (fun {a b} h => ?_)
  have ha := swap_key hk' a
  have hb := swap_key hk' b
  rw [byKeyV_lt] at h ⊢
  rw [ha.1, ha.2, hb.1, hb.2]
  exact h
theorem fail_same {c : Cf} {ep : Int} {m : MS} {r : RM} (hm : MOk c ep m) (ht : zcf m.TL m.QL r.tasks) (hn : r.now = m.now) (hs : ∀ q ∈ m.QL, 0 <= q.2.slot) (e n : Int) {g : Lse} (hg : zbm m.QL ⟨e, n⟩ = some g) {x : Tsk} (hx : zbm m.TL g.job = some x) :
  (r.fail e n).2 = 0 /\ (r.fail e n).1 = { r with tasks := (r.fail e n).1.tasks } /\ zcf (zer m.TL g.job (x.failed m.now)) (zcj m.QL ⟨e, n⟩) (r.fail e n).1.tasks := by
 obtain ⟨j, h1, h2⟩ := lease_same hm ht hs e n hg hx
 have hk : g.job = x.key := (hm.tasks _ (zat hx)).key
 have hE : r.fail e n = ({ r with tasks := r.tasks.modify j (Tk.fail r.now) }, 0) := by unfold RM.fail; rw [h1]
 rw [hE]
 refine ⟨rfl, rfl, ?_⟩
 have hgm := zat hg
 refine zcf.failed (x' := x.failed m.now) (QL' := zcj m.QL ⟨e, n⟩) hm ht hx ⟨rfl, rfl⟩ (jobs_del hm.jobs _) (fun q => ?_) (Tk.fail r.now) ?_ h2
 ·rw [zbh]
  constructor
  ·rintro ⟨a, b⟩
   exact ⟨a, fun e' => job_other hm.jobs hgm (zbh.2 ⟨a, b⟩) (e'.trans hk.symm)⟩
  ·rintro ⟨a, b⟩
   refine ⟨a, fun e' => b ?_⟩
   have h4 : zbm m.QL q.1 = some q.2 := zcg hm.nq a
   rw [e', hg] at h4
   injection h4 with h4
   rw [<- h4, hk]
 ·have hno : jobO (zcj m.QL ⟨e, n⟩) (x.failed m.now) = (⟨0, 0⟩, -1, 0) := jobO_none (fun q hq e' => job_other hm.jobs hgm hq (e'.trans hk.symm))
  rw [hn]
  unfold Tk.fail tkOf
  rw [hno]
  rfl
theorem lessB_iff (a b : Tk) : zdh a b = true ↔ (a.kind < b.kind \/ a.kind = b.kind /\ (a.s.t < b.s.t \/ a.s.t = b.s.t /\ (a.s.ser < b.s.ser \/ a.s.ser = b.s.ser /\ a.s.win < b.s.win))) := by
 unfold zdh
 repeat' split
 all_goals (simp only [decide_eq_true_eq]; omega)
theorem mem_insBy (lt : Tk -> Tk -> Bool) (x y : Tk) : ∀ l : List Tk, y ∈ insBy lt x l ↔ y = x \/ y ∈ l
 | [] => by simp [insBy]
 | z :: l => by
  unfold insBy
  split
  ·simp
  ·rw [List.mem_cons, mem_insBy lt x y l, List.mem_cons]
   constructor
   ·rintro (h | h | h)
    ·exact .inr (.inl h)
    ·exact .inl h
    ·exact .inr (.inr h)
   ·rintro (h | h | h)
    ·exact .inr (.inl h)
    ·exact .inl h
    ·exact .inr (.inr h)
theorem sorted_insBy (x : Tk) : ∀ l : List Tk, l.Pairwise (fun a b => ¬ zdh b a = true) -> (insBy zdh x l).Pairwise (fun a b => ¬ zdh b a = true)
 | [], _ => by simp [insBy]
 | z :: l, h => by
  rw [List.pairwise_cons] at h
  unfold insBy
  split
  ·rename_i hlt
   rw [List.pairwise_cons]
   refine ⟨fun y hy => ?_, List.pairwise_cons.2 h⟩
   rcases List.mem_cons.1 hy with rfl | hy
   ·rw [lessB_iff] at *; omega
   ·have := h.1 y hy
    rw [lessB_iff] at *; omega
  ·rename_i hlt
   rw [List.pairwise_cons]
   refine ⟨fun y hy => ?_, sorted_insBy x l h.2⟩
   rcases (mem_insBy _ _ _ _).1 hy with rfl | hy
   ·exact hlt
   ·exact h.1 y hy
theorem mem_stepK {m : RM} {l : List Sg} {kind : Int} {out : List Tk} {s : Sg} {k : Tk} : k ∈ zfm m l kind out s ↔ (readyK m kind s l = true /\ k = zea m kind s) \/ k ∈ out := by
 unfold zfm
 split
 ·rename_i h
  rw [mem_insBy]
  simp [h]
 ·rename_i h
  simp [h]
theorem sorted_stepK {m : RM} {l : List Sg} {kind : Int} {out : List Tk} {s : Sg} (h : out.Pairwise (fun a b => ¬ zdh b a = true)) : (zfm m l kind out s).Pairwise (fun a b => ¬ zdh b a = true) := by
 unfold zfm
 split
 ·exact sorted_insBy _ _ h
 ·exact h
theorem fold_settle (m : RM) (l : List Sg) : ∀ (xs : List Sg) (out : List Tk), out.Pairwise (fun a b => ¬ zdh b a = true) -> (xs.foldl (fun out s => zfm m l 2 (zfm m l 1 out s) s) out).Pairwise (fun a b => ¬ zdh b a = true) /\ ∀ k, k ∈ xs.foldl (fun out s => zfm m l 2 (zfm m l 1 out s) s) out ↔ k ∈ out \/ ∃ s ∈ xs, ∃ kind, (kind = 1 \/ kind = 2) /\ readyK m kind s l = true /\ k = zea m kind s
 | [], out, h => ⟨h, fun k => by simp⟩
 | x :: xs, out, h => by
  obtain ⟨h1, h2⟩ := fold_settle m l xs _ (sorted_stepK (m := m) (l := l) (kind := 2) (s := x) (sorted_stepK (m := m) (l := l) (kind := 1) (s := x) h))
  refine ⟨h1, fun k => ?_⟩
  rw [List.foldl_cons, h2, mem_stepK, mem_stepK]
  constructor
  ·rintro ((⟨a, b⟩ | ⟨a, b⟩ | a) | ⟨s, hs, a⟩)
   ·exact .inr ⟨x, by simp, 2, .inr rfl, a, b⟩
   ·exact .inr ⟨x, by simp, 1, .inl rfl, a, b⟩
   ·exact .inl a
   ·exact .inr ⟨s, by simp [hs], a⟩
  ·rintro (a | ⟨s, hs, kind, hk, a, b⟩)
   ·exact .inl (.inr (.inr a))
   ·rcases List.mem_cons.1 hs with rfl | hs
    ·rcases hk with rfl | rfl
     ·exact .inl (.inr (.inl ⟨a, b⟩))
     ·exact .inl (.inl ⟨a, b⟩)
    ·exact .inr ⟨s, hs, kind, hk, a, b⟩
theorem settled_jobs (m : RM) : m.settled.tasks.Pairwise (fun a b => ¬ zdh b a = true) /\ ∀ k, k ∈ m.settled.tasks ↔ ∃ s ∈ zax m.c m.nums, ∃ kind, (kind = 1 \/ kind = 2) /\ readyK m kind s (zax m.c m.nums) = true /\ k = zea m kind s := by
 have h := fold_settle m (zax m.c m.nums) (zax m.c m.nums) [] List.Pairwise.nil
 have e : m.settled.tasks = (zax m.c m.nums).foldl (fun out s => zfm m (zax m.c m.nums) 2 (zfm m (zax m.c m.nums) 1 out s) s) [] := by
  unfold RM.settled zcy
  simp only [List.take_length]
 rw [e]
 refine ⟨h.1, fun k => ?_⟩
 rw [h.2]
 simp
theorem perm_insBy (lt : Tk -> Tk -> Bool) (x : Tk) : ∀ l : List Tk, (insBy lt x l).Perm (x :: l)
 | [] => .refl _
 | z :: l => by
  unfold insBy
  split
  ·exact .refl _
  ·exact ((perm_insBy lt x l).cons z).trans (.swap x z l)
theorem taskFor_key (m : RM) (kind : Int) (s : Sg) : (zea m kind s).kind = kind /\ (zea m kind s).s = s := by
 unfold zea
 have : ∀ (l : List Tk) (t : Tk), t.kind = kind /\ t.s = s -> (l.foldl (zdd kind s) t).kind = kind /\ (l.foldl (zdd kind s) t).s = s := fun l => by
  induction l with
  | nil => exact fun t h => h
  | cons x l ih =>
   intro t h
   refine ih _ ?_
   unfold zdd
   split
   ·rename_i e; exact e
   ·exact h
 exact this _ _ ⟨rfl, rfl⟩
theorem fold_nodup (m : RM) (l : List Sg) : ∀ (xs : List Sg) (out : List Tk), xs.Nodup -> out.Nodup -> (∀ k ∈ out, k.s ∉ xs) -> (xs.foldl (fun out s => zfm m l 2 (zfm m l 1 out s) s) out).Nodup
 | [], out, _, h, _ => h
 | x :: xs, out, hx, h, hd => by
  rw [List.nodup_cons] at hx
  rw [List.foldl_cons]
  have hstep : ∀ (kind : Int) (o : List Tk), o.Nodup -> (∀ k ∈ o, k.s = x -> k.kind ≠ kind) -> (zfm m l kind o x).Nodup := fun kind o ho hk => by
   unfold zfm
   split
   ·rw [(perm_insBy _ _ _).nodup_iff, List.nodup_cons]
    exact ⟨fun hm => hk _ hm (taskFor_key m kind x).2 (taskFor_key m kind x).1, ho⟩
   ·exact ho
  have h1 := hstep 1 out h (fun k hk e => absurd (by simp [e]) (hd k hk))
  have h2 := hstep 2 _ h1 (fun k hk e => by
   rcases mem_stepK.1 hk with ⟨-, rfl⟩ | hk
   ·rw [(taskFor_key m 1 x).1]; decide
   ·exact absurd (by simp [e]) (hd k hk))
  refine fold_nodup m l xs _ hx.2 h2 (fun k hk => ?_)
  rcases mem_stepK.1 hk with ⟨-, rfl⟩ | hk
  ·rw [(taskFor_key m 2 x).2]; exact hx.1
  ·rcases mem_stepK.1 hk with ⟨-, rfl⟩ | hk
   ·rw [(taskFor_key m 1 x).2]; exact hx.1
   ·exact fun e => hd k hk (by simp [e])
theorem settled_nodup (m : RM) : m.settled.tasks.Nodup := by
 have e : m.settled.tasks = (zax m.c m.nums).foldl (fun out s => zfm m (zax m.c m.nums) 2 (zfm m (zax m.c m.nums) 1 out s) s) [] := by
  unfold RM.settled zcy
  simp only [List.take_length]
 rw [e]
 exact fold_nodup m _ _ [] (segsOf_nodup _ _) List.nodup_nil (fun k hk => by cases hk)
theorem zcf.of_settled {TL : List (Jk × Tsk)} {QL : List (Tok × Lse)} {r : RM} (hk : ∀ p ∈ TL, p.1 = p.2.key) (hn : (zaj TL).Nodup) (h1 : ∀ p ∈ TL, tkOf QL p.2 ∈ r.settled.tasks) (h2 : ∀ k ∈ r.settled.tasks, ∃ p ∈ TL, k = tkOf QL p.2) : zcf TL QL r.settled.tasks := by
 have hts : (r.settled.tasks.map tskOf).map (tkOf QL) = r.settled.tasks := by
  rw [List.map_map]
  conv => rhs; rw [<- List.map_id r.settled.tasks]
  apply List.map_congr_left
  intro k hk
  obtain ⟨p, -, rfl⟩ := h2 k hk
  simp only [Function.comp, tskOf_of, id]
 have hd1 : (r.settled.tasks.map tskOf).Nodup := nodup_of_map (f := tkOf QL) (by rw [hts]; exact settled_nodup r)
 have hd2 : (TL.map (·.2)).Nodup := by
  refine nodup_of_map (f := Tsk.key) ?_
  rw [List.map_map]
  have e : TL.map (Tsk.key ∘ fun p : Jk × Tsk => p.2) = zaj TL := by
   unfold zaj
   apply List.map_congr_left
   intro p hp
   exact (hk p hp).symm
  rw [e]; exact hn
 refine ⟨r.settled.tasks.map tskOf, ?_, ?_, hts.symm⟩
 ·rw [List.perm_ext_iff_of_nodup hd1 hd2]
  intro x
  rw [List.mem_map, List.mem_map]
  constructor
  ·rintro ⟨k, hk, rfl⟩
   obtain ⟨p, hp, rfl⟩ := h2 k hk
   exact ⟨p, hp, by rw [tskOf_of]⟩
  ·rintro ⟨p, hp, rfl⟩
   exact ⟨_, h1 p hp, by rw [tskOf_of]⟩
 ·rw [List.pairwise_map]
  refine List.Pairwise.imp_of_mem (fun {a b} ha hb h => ?_) (settled_jobs r).1
  obtain ⟨p, -, rfl⟩ := h2 a ha
  obtain ⟨q, -, rfl⟩ := h2 b hb
  rw [tskOf_of, tskOf_of, byKeyV_lt]
  rw [lessB_iff] at h
  exact h
theorem post1 {T : List (Jk × Tsk)} (hn : (zaj T).Nodup) (now : Int) (b : Bool) (kd : Int) (s : Sg) (k : Jk) (x : Tsk) : ∀ T', (T' = match zbm T ⟨kd, s⟩ with | some _ => T | none => zer T ⟨kd, s⟩ ⟨b, s, now, 0, 0⟩) -> ((zaj T').Nodup /\ (zbm T' k = some x ↔ zbm T k = some x \/ (zbm T k = none /\ k = ⟨kd, s⟩ /\ x = ⟨b, s, now, 0, 0⟩))) := by
 rintro T' rfl
 split
 ·rename_i y hy
  refine ⟨hn, ⟨.inl, ?_⟩⟩
  rintro (h | ⟨h1, h2, -⟩)
  ·exact h
  ·rw [h2, hy] at h1; cases h1
 ·rename_i hy
  refine ⟨zdx hn, ?_⟩
  rw [getM_put hn]
  by_cases e : k = ⟨kd, s⟩
  ·rw [if_pos e, e, hy]
   simp [eq_comm]
  ·rw [if_neg e]
   simp [e]
theorem get_postR {now : Int} : ∀ (ys : List Sg) {T : List (Jk × Tsk)}, (zaj T).Nodup -> (zaj (ys.foldl (zeg now) T)).Nodup /\ ∀ k x, zbm (ys.foldl (zeg now) T) k = some x ↔ zbm T k = some x \/ (zbm T k = none /\ ∃ s ∈ ys, k = ⟨1, s⟩ /\ x = ⟨true, s, now, 0, 0⟩)
 | [], T, hn => ⟨hn, fun k x => by simp⟩
 | y :: ys, T, hn => by
  have h1 := fun k x => post1 hn now true 1 y k x (zeg now T y) rfl
  obtain ⟨h2, h3⟩ := get_postR ys (h1 ⟨1, y⟩ ⟨true, y, now, 0, 0⟩).1
  refine ⟨h2, fun k x => ?_⟩
  rw [List.foldl_cons, h3, (h1 k x).2]
  have hno : zbm (zeg now T y) k = none ↔ zbm T k = none /\ k ≠ ⟨1, y⟩ := by
   constructor
   ·intro h
    refine ⟨?_, fun e => ?_⟩
    ·cases hg : zbm T k with
     | none => rfl
     | some z => rw [(h1 k z).2.2 (.inl hg)] at h; cases h
    ·cases hg : zbm T k with
     | none => rw [(h1 k _).2.2 (.inr ⟨hg, e, rfl⟩)] at h; cases h
     | some z => rw [(h1 k z).2.2 (.inl hg)] at h; cases h
   ·rintro ⟨a, b⟩
    cases hg : zbm (zeg now T y) k with
    | none => rfl
    | some z =>
     rcases (h1 k z).2.1 hg with h | ⟨-, h, -⟩
     ·rw [a] at h; cases h
     ·exact absurd h b
  rw [hno]
  constructor
  ·rintro ((a | ⟨a, b, d⟩) | ⟨⟨a, -⟩, s, hs, b, d⟩)
   ·exact .inl a
   ·exact .inr ⟨a, y, by simp, b, d⟩
   ·exact .inr ⟨a, s, by simp [hs], b, d⟩
  ·rintro (a | ⟨a, s, hs, b, d⟩)
   ·exact .inl (.inl a)
   ·by_cases e : k = ⟨1, y⟩
    ·have : s = y := by rw [b] at e; injection e
     subst this
     exact .inl (.inr ⟨a, b, d⟩)
    ·rcases List.mem_cons.1 hs with rfl | hs
     ·exact absurd b e
     ·exact .inr ⟨⟨a, e⟩, s, hs, b, d⟩
theorem get_postC {now : Int} : ∀ (ys : List Sg) {T : List (Jk × Tsk)}, (zaj T).Nodup -> (zaj (ys.foldl (zfj now) T)).Nodup /\ ∀ k x, zbm (ys.foldl (zfj now) T) k = some x ↔ zbm T k = some x \/ (zbm T k = none /\ ∃ s ∈ ys, k = ⟨2, s⟩ /\ x = ⟨false, s, now, 0, 0⟩)
 | [], T, hn => ⟨hn, fun k x => by simp⟩
 | y :: ys, T, hn => by
  have h1 := fun k x => post1 hn now false 2 y k x (zfj now T y) rfl
  obtain ⟨h2, h3⟩ := get_postC ys (h1 ⟨2, y⟩ ⟨false, y, now, 0, 0⟩).1
  refine ⟨h2, fun k x => ?_⟩
  rw [List.foldl_cons, h3, (h1 k x).2]
  have hno : zbm (zfj now T y) k = none ↔ zbm T k = none /\ k ≠ ⟨2, y⟩ := by
   constructor
   ·intro h
    refine ⟨?_, fun e => ?_⟩
    ·cases hg : zbm T k with
     | none => rfl
     | some z => rw [(h1 k z).2.2 (.inl hg)] at h; cases h
    ·cases hg : zbm T k with
     | none => rw [(h1 k _).2.2 (.inr ⟨hg, e, rfl⟩)] at h; cases h
     | some z => rw [(h1 k z).2.2 (.inl hg)] at h; cases h
   ·rintro ⟨a, b⟩
    cases hg : zbm (zfj now T y) k with
    | none => rfl
    | some z =>
     rcases (h1 k z).2.1 hg with h | ⟨-, h, -⟩
     ·rw [a] at h; cases h
     ·exact absurd h b
  rw [hno]
  constructor
  ·rintro ((a | ⟨a, b, d⟩) | ⟨⟨a, -⟩, s, hs, b, d⟩)
   ·exact .inl a
   ·exact .inr ⟨a, y, by simp, b, d⟩
   ·exact .inr ⟨a, s, by simp [hs], b, d⟩
  ·rintro (a | ⟨a, s, hs, b, d⟩)
   ·exact .inl (.inl a)
   ·by_cases e : k = ⟨2, y⟩
    ·have : s = y := by rw [b] at e; injection e
     subst this
     exact .inl (.inr ⟨a, b, d⟩)
    ·rcases List.mem_cons.1 hs with rfl | hs
     ·exact absurd b e
     ·exact .inr ⟨⟨a, e⟩, s, hs, b, d⟩
theorem zev.get {c : Cf} {m : MS} {TL' : List (Jk × Tsk)} (hn : (zaj m.TL).Nodup) (hp : zev c m TL') : ∃ (Bs : List (Sg × Unit)), (∀ x, x ∈ zaj Bs ↔ ∃ k, k ∈ zam m.L /\ (stL m.L k).st = 2 /\ x ∈ hangL c k) /\ (zaj TL').Nodup /\ ∀ k x, zbm TL' k = some x ↔ zbm m.TL k = some x \/ (zbm m.TL k = none /\ ∃ s ∈ zam m.L, (rollB c Bs m.L m.now s = true /\ k = ⟨1, s⟩ /\ x = ⟨true, s, m.now, 0, 0⟩) \/ (reclB c m.L m.now s = true /\ k = ⟨2, s⟩ /\ x = ⟨false, s, m.now, 0, 0⟩)) := by
 obtain ⟨Bs, ys1, ys2, hB, h1, h2, rfl⟩ := hp.to
 obtain ⟨n1, g1⟩ := get_postR (now := m.now) ys1 hn
 obtain ⟨n2, g2⟩ := get_postC (now := m.now) ys2 n1
 refine ⟨Bs, hB, n2, fun k x => ?_⟩
 rw [g2, g1]
 have hno : zbm (ys1.foldl (zeg m.now) m.TL) k = none ↔ zbm m.TL k = none /\ ∀ s ∈ ys1, k ≠ ⟨1, s⟩ := by
  constructor
  ·intro h
   have a : zbm m.TL k = none := by
    cases hg : zbm m.TL k with
    | none => rfl
    | some z => rw [(g1 k z).2 (.inl hg)] at h; cases h
   exact ⟨a, fun s hs e => by rw [(g1 k _).2 (.inr ⟨a, s, hs, e, rfl⟩)] at h; cases h⟩
  ·rintro ⟨a, b⟩
   cases hg : zbm (ys1.foldl (zeg m.now) m.TL) k with
   | none => rfl
   | some z =>
    rcases (g1 k z).1 hg with h | ⟨-, s, hs, e, -⟩
    ·rw [a] at h; cases h
    ·exact absurd e (b s hs)
 rw [hno]
 constructor
 ·rintro ((a | ⟨a, s, hs, b, d⟩) | ⟨⟨a, -⟩, s, hs, b, d⟩)
  ·exact .inl a
  ·exact .inr ⟨a, s, ((h1 s).1 hs).1, .inl ⟨((h1 s).1 hs).2, b, d⟩⟩
  ·exact .inr ⟨a, s, ((h2 s).1 hs).1, .inr ⟨((h2 s).1 hs).2, b, d⟩⟩
 ·rintro (a | ⟨a, s, hs, ⟨h, b, d⟩ | ⟨h, b, d⟩⟩)
  ·exact .inl (.inl a)
  ·exact .inl (.inr ⟨a, s, (h1 s).2 ⟨hs, h⟩, b, d⟩)
  ·exact .inr ⟨⟨a, fun s' _ e => by rw [b] at e; injection e with e1; omega⟩, s, (h2 s).2 ⟨hs, h⟩, b, d⟩
theorem fold_pick_none (kind : Int) (s : Sg) : ∀ (l : List Tk) (t : Tk), (∀ x ∈ l, ¬ (x.kind = kind /\ x.s = s)) -> l.foldl (zdd kind s) t = t
 | [], t, _ => rfl
 | x :: l, t, h => by
  rw [List.foldl_cons]
  have e : zdd kind s t x = t := by unfold zdd; rw [if_neg (h x (by simp))]
  rw [e]
  exact fold_pick_none kind s l t (fun y hy => h y (by simp [hy]))
theorem fold_pick_one (kind : Int) (s : Sg) (x : Tk) (hx : x.kind = kind /\ x.s = s) : ∀ (l : List Tk) (t : Tk), (∀ y ∈ l, y.kind = kind /\ y.s = s -> y = x) -> (t = x \/ x ∈ l) -> l.foldl (zdd kind s) t = x
 | [], t, _, h => by
  rcases h with h | h
  ·exact h
  ·cases h
 | y :: l, t, hu, h => by
  rw [List.foldl_cons]
  refine fold_pick_one kind s x hx l _ (fun z hz => hu z (by simp [hz])) ?_
  by_cases hy : y.kind = kind /\ y.s = s
  ·have e : zdd kind s t y = y := by unfold zdd; rw [if_pos hy]
   exact .inl (e.trans (hu y (by simp) hy))
  ·have e : zdd kind s t y = t := by unfold zdd; rw [if_neg hy]
   rw [e]
   rcases h with h | h
   ·exact .inl h
   ·rcases List.mem_cons.1 h with h | h
    ·exact absurd (h ▸ hx) hy
    ·exact .inr h
section
variable {c : Cf} {ep : Int} {m : MS} {r : RM}
theorem taskFor_old (hm : MOk c ep m) (ht : zcf m.TL m.QL r.tasks) {kind : Int} {s : Sg} {x : Tsk} (hx : zbm m.TL ⟨kind, s⟩ = some x) : zea r kind s = tkOf m.QL x := by
 have hp := zat hx
 have hk : (⟨kind, s⟩ : Jk) = x.key := (hm.tasks _ hp).key
 unfold Tsk.key at hk
 injection hk with hk1 hk2
 unfold zea
 refine fold_pick_one kind s (tkOf m.QL x) ⟨hk1.symm, hk2.symm⟩ _ _ (fun y hy e => ?_) (.inr ((ht.mem _).2 ⟨_, hp, rfl⟩))
 obtain ⟨q, hq, rfl⟩ := (ht.mem y).1 hy
 have e1 : q.1 = ⟨kind, s⟩ := by
  rw [(hm.tasks q hq).key]
  unfold Tsk.key
  rw [show q.2.kd = kind from e.1, show q.2.s = s from e.2]
 have e2 : zbm m.TL q.1 = some q.2 := zcg hm.nt hq
 rw [e1, hx] at e2
 injection e2 with e2
 rw [e2]
theorem taskFor_new (hm : MOk c ep m) (ht : zcf m.TL m.QL r.tasks) (hn : r.now = m.now) {b : Bool} {s : Sg} (hx : zbm m.TL ⟨(⟨b, s, m.now, 0, 0⟩ : Tsk).kd, s⟩ = none) : zea r (⟨b, s, m.now, 0, 0⟩ : Tsk).kd s = tkOf m.QL ⟨b, s, m.now, 0, 0⟩ := by
 have hno : ∀ q ∈ m.QL, q.2.job ≠ (⟨b, s, m.now, 0, 0⟩ : Tsk).key := fun q hq e => by
  obtain ⟨y, hy, -⟩ := (hm.leas q hq).job
  rw [e] at hy
  have : zbm m.TL (⟨b, s, m.now, 0, 0⟩ : Tsk).key = none := hx
  rw [this] at hy; cases hy
 unfold zea
 rw [fold_pick_none]
 ·unfold newTk tkOf
  rw [jobO_none hno, hn]
 ·intro k hk e
  obtain ⟨q, hq, rfl⟩ := (ht.mem k).1 hk
  have e1 : q.1 = ⟨(⟨b, s, m.now, 0, 0⟩ : Tsk).kd, s⟩ := by
   rw [(hm.tasks q hq).key]
   unfold Tsk.key
   rw [show q.2.kd = _ from e.1, show q.2.s = s from e.2]
  have e2 : zbm m.TL q.1 = some q.2 := zcg hm.nt hq
  rw [e1, hx] at e2
  cases e2
end
section
variable {c : Cf} {ep : Int} {m : MS} {r : RM}
theorem taskFor_post (hm : MOk c ep m) (ht : zcf m.TL m.QL r.tasks) (hn : r.now = m.now) {TL' : List (Jk × Tsk)} (hp : zev c m TL') {kind : Int} {s : Sg} {x : Tsk} (hx : zbm TL' ⟨kind, s⟩ = some x) : zea r kind s = tkOf m.QL x := by
 obtain ⟨Bs, -, -, hg⟩ := hp.get hm.nt
 rcases (hg _ x).1 hx with h | ⟨h, s', -, ⟨-, e, rfl⟩ | ⟨-, e, rfl⟩⟩
 ·exact taskFor_old hm ht h
 ·injection e with e1 e2
  subst e1 e2
  exact taskFor_new (b := true) hm ht hn h
 ·injection e with e1 e2
  subst e1 e2
  exact taskFor_new (b := false) hm ht hn h
theorem settle_same (hc : c.ok) (hf : c.fits) (hm : MOk c ep m) (ht : zcf m.TL m.QL r.tasks) (hn : r.now = m.now) {TL' : List (Jk × Tsk)} (hp : zev c m TL') (hr : ∀ kind s, (kind = 1 \/ kind = 2) -> s ∈ zax r.c r.nums -> (readyK r kind s (zax r.c r.nums) = true ↔ (⟨kind, s⟩ : Jk) ∈ zaj TL')) (hsub : ∀ k ∈ zaj TL', k.s ∈ zax r.c r.nums) : zcf TL' m.QL r.settled.tasks := by
 have hm' := (hm.post hc hf hp).1
 have hk : ∀ p ∈ TL', p.1 = p.2.key := fun p hp' => (hm'.tasks p hp').key
 have hnt : (zaj TL').Nodup := hm'.nt
 refine zcf.of_settled hk hnt (fun p hp' => ?_) (fun k hk' => ?_)
 ·have hg : zbm TL' p.1 = some p.2 := zcg hnt hp'
  have hkd : p.1.kd = 1 \/ p.1.kd = 2 := by
   rw [hk p hp']
   show p.2.kd = 1 \/ p.2.kd = 2
   unfold Tsk.kd
   split <;> simp
  have hmem : p.1 ∈ zaj TL' := List.mem_map.2 ⟨p, hp', rfl⟩
  have hs := hsub _ hmem
  rw [(settled_jobs r).2]
  exact ⟨p.1.s, hs, p.1.kd, hkd, (hr _ _ hkd hs).2 hmem, (taskFor_post hm ht hn hp hg).symm⟩
 ·obtain ⟨s, hs, kind, hkd, hrd, rfl⟩ := ((settled_jobs r).2 k).1 hk'
  have hmem := (hr kind s hkd hs).1 hrd
  obtain ⟨p, hp', e⟩ := List.mem_map.1 hmem
  have hg : zbm TL' ⟨kind, s⟩ = some p.2 := by rw [<- e]; exact zcg hnt hp'
  exact ⟨p, hp', taskFor_post hm ht hn hp hg⟩
end
end Go.Proofs.YtpbimdkclnekeaaGreat
