import Derived.Test.YtgadceofpbfleaaGreatQLaw6
import Derived.Test.YtgadceofpbfleaaGreatQLawD

/- All posts in memory, apart from one another (written by wip/mklawF.py). -/
namespace Go.Proofs.YtgadceofpbfleaaGreat
open Go.RowKit Go.Maps Go.Shelf
set_option linter.unusedVariables false

theorem right_ok {c : Cf} (h : rightB c.s c.le c.la c.wi c.ke c.qu c.n c.F c.W c.K = true) : c.ok := by
  unfold rightB at h
  simp only [Bool.and_eq_true, inB_iff, allB_iff] at h
  obtain ⟨⟨⟨⟨⟨⟨⟨⟨h1, h2⟩, h3⟩, h4⟩, h5⟩, h6⟩, h7⟩, h8⟩, h9⟩ := h
  have ht : ∀ i, i < c.n → (-1 ≤ c.F i ∧ c.F i ≤ (c.n : Int) - 1) ∧ (1 ≤ c.W i ∧ c.W i ≤ 1000) ∧ (0 ≤ c.K i ∧ c.K i ≤ 1000) := fun i hi => by
    have := h8 i hi
    unfold tierB at this
    simp only [Bool.and_eq_true, inB_iff] at this
    exact ⟨this.1.1, this.1.2, this.2⟩
  exact ⟨by omega, by omega, h4.1, by omega, fun i hi => (ht i hi).2.1, fun i hi => by have := (ht i hi).1; omega, fun i hi => (ht i hi).2.2, h5, h3, h6, h1, h2⟩

/-- a post, all its parts. -/
structure PD where
  po : Nat
  x : Nat
  d : Nat
  r : Nat
  c : Cf
  ct : Value
  tv : Value
  mv : Value
  fs : Value
  ep : Int
  now : Int
  s : Nat
  lb : Nat
  gb : Nat
  L : LV
  B0 : Nat
  B1 : Nat
  m : RM
  rt : Value
  nv : Value
  pv : Value
  gv : Value
  kv : Value
def PD.at (p : PD) (w : World) : Prop := PostW w p.po p.x p.d p.r p.c p.ct p.tv p.mv p.fs p.ep p.now p.s p.lb p.gb p.L p.B0 p.B1 p.m p.rt p.nv p.pv p.gv p.kv
def PD.apart (p q : PD) : Prop := ¬ p.po = q.po ∧ ¬ p.x = q.x ∧ ¬ p.lb = q.lb ∧ ¬ p.lb = q.gb ∧ ¬ p.gb = q.lb
theorem PD.apart.symm {p q : PD} (h : p.apart q) : q.apart p := ⟨fun e => h.1 e.symm, fun e => h.2.1 e.symm, fun e => h.2.2.1 e.symm, fun e => h.2.2.2.2 e.symm, fun e => h.2.2.2.1 e.symm⟩
/-- what a step on a post writes. -/
def PD.wr (p : PD) (k : Nat) : Prop := k = p.po ∨ k = p.x ∨ k = p.lb

theorem PD.kinds {q : PD} {w : World} (h : q.at w) : ∀ k, pfoot q.po q.x q.d q.r q.tv q.mv q.fs q.s q.lb q.gb q.rt q.nv q.pv q.gv q.kv k → k = q.po ∨ k = q.x ∨ k = q.lb ∨ k = q.gb ∨ ∃ cs t, w.heap[k]? = some (.cells cs t (0, 0)) ∧ t ≠ 108 ∧ t ≠ 54 := fun k hk => by
  rcases hk with rfl | hk | hk | hk | hk
  · exact .inl rfl
  · rcases hk with rfl | rfl | hk | rfl | rfl
    · exact .inr (.inl rfl)
    · exact .inr (.inr (.inr (.inr ⟨_, _, PostW.mill h |>.set.head, by decide, by decide⟩)))
    · obtain ⟨cur, hc⟩ := owns_type (PostW.mill h).set.trow hk; exact .inr (.inr (.inr (.inr ⟨_, _, hc, by decide, by decide⟩)))
    · exact .inr (.inr (.inl rfl))
    · exact .inr (.inr (.inr (.inl rfl)))
  · exact .inr (.inr (.inr (.inr (PostW.kinds h k (.inl hk)))))
  · exact .inr (.inr (.inr (.inr (PostW.kinds h k (.inr (.inl hk))))))
  · exact .inr (.inr (.inr (.inr (PostW.kinds h k (.inr (.inr hk))))))

theorem PD.not_wr {p : PD} {w : World} (h : p.at w) {k : Nat} {cs : Array Value} {t : TypeId} (hk : w.heap[k]? = some (.cells cs t (0, 0))) (h1 : t ≠ 108) (h2 : t ≠ 54) : ¬ p.wr k := fun e => by
  rcases e with rfl | rfl | rfl
  · have := PostW.head h; unfold postObj at this; rw [this] at hk; cases hk; exact h2 rfl
  · rw [(PostW.mill h).head] at hk; cases hk; exact h1 rfl
  · obtain ⟨es, cl, hb, _⟩ := (PostW.mill h).set.live; rw [hb] at hk; cases hk

theorem PD.not_wr_map {p : PD} {w : World} (h : p.at w) {k : Nat} {es : Array _} {cl : Nat} (hk : w.heap[k]? = some (.map es cl)) (h1 : ¬ k = p.lb) : ¬ p.wr k := fun e => by
  rcases e with rfl | rfl | e
  · have := PostW.head h; unfold postObj at this; rw [this] at hk; cases hk
  · rw [(PostW.mill h).head] at hk; cases hk
  · exact h1 e

theorem PD.other {p q : PD} {w w' : World} (hp : p.at w) (hq : q.at w) (ha : p.apart q) (hk : Kept p.wr w w') : q.at w' :=
  PostW.kept hq hk (fun k hf => by
    rcases PD.kinds hq k hf with rfl | rfl | rfl | rfl | ⟨cs, t, h0, h1, h2⟩
    · intro e
      rcases e with e | e | e
      · exact ha.1 e.symm
      · have h1 := PostW.head hq; unfold postObj at h1; rw [e, (PostW.mill hp).head] at h1; cases h1
      · have h1 := PostW.head hq; unfold postObj at h1; obtain ⟨es, cl, hb, _⟩ := (PostW.mill hp).set.live; rw [e, hb] at h1; cases h1
    · intro e
      rcases e with e | e | e
      · have h1 := PostW.head hp; unfold postObj at h1; rw [← e, (PostW.mill hq).head] at h1; cases h1
      · exact ha.2.1 e.symm
      · have h1 := (PostW.mill hq).head; obtain ⟨es, cl, hb, _⟩ := (PostW.mill hp).set.live; rw [e, hb] at h1; cases h1
    · obtain ⟨es, cl, hb, _⟩ := (PostW.mill hq).set.live
      exact PD.not_wr_map hp hb (fun e => ha.2.2.1 e.symm)
    · exact PD.not_wr_map hp (PostW.mill hq).set.gone (fun e => ha.2.2.2.1 e.symm)
    · exact PD.not_wr hp h0 h1 h2)

/-- the statement's world. -/
structure Inv (B : Nat) (w : World) (wb : Nat) (pv : Value) (ps : List PD) : Prop where
  head : w.heap[wb]? = some (.cells #[pv, .slice none 0 0] 29 (0, 0))
  row : w.ownsRow B 50 1 pv (ps.map PD.po).length ((ps.map PD.po).map (fun q => .pointer (some ⟨q, 0, none⟩)))
  all : ∀ p ∈ ps, p.at w ∧ B ≤ p.po ∧ B ≤ p.x ∧ B ≤ p.lb
  apart : ps.Pairwise PD.apart

theorem PD.at.later {p : PD} {w w' : World} (h : p.at w) (hb : Below w.heap.size w w') : p.at w' := PostW.kept h (Kept.of_below (f := fun _ => False) hb) (fun _ _ hh => hh)
theorem Inv.later {B : Nat} {w w' : World} {wb : Nat} {pv : Value} {ps : List PD} (h : Inv B w wb pv ps) (hb : Below w.heap.size w w') : Inv B w' wb pv ps :=
  ⟨(hb.block wb (lt_of_heap h.head)).trans h.head, owns_kept h.row (Kept.of_below (f := fun _ => False) hb) (fun _ _ hh => hh), fun p hp => ⟨(h.all p hp).1.later hb, (h.all p hp).2⟩, h.apart⟩

theorem Inv.upd {B : Nat} {w w' : World} {wb : Nat} {pv : Value} {l1 l2 : List PD} {p p' : PD} (h : Inv B w wb pv (l1 ++ p :: l2)) (hn : p'.po = p.po ∧ p'.x = p.x ∧ p'.lb = p.lb ∧ p'.gb = p.gb) (hp' : p'.at w') (hk : Kept p.wr w w') : Inv B w' wb pv (l1 ++ p' :: l2) := by
  obtain ⟨n1, n2, n3, n4⟩ := hn
  have hp := h.all p (by simp)
  have hap := h.apart
  rw [List.pairwise_append, List.pairwise_cons] at hap
  obtain ⟨a1, ⟨a2, a3⟩, a4⟩ := hap
  have e1 : (l1 ++ p' :: l2).map PD.po = (l1 ++ p :: l2).map PD.po := by simp [n1]
  have r1 : ∀ q : PD, p.apart q → p'.apart q := fun q hq => by unfold PD.apart at *; rw [n1, n2, n3, n4]; exact hq
  have r2 : ∀ q : PD, q.apart p → q.apart p' := fun q hq => by unfold PD.apart at *; rw [n1, n2, n3, n4]; exact hq
  refine ⟨hk.heap h.head (PD.not_wr hp.1 h.head (by decide) (by decide)), ?_, ?_, ?_⟩
  · rw [e1]
    exact owns_kept h.row hk (fun k hb => by obtain ⟨cur, hc⟩ := owns_type h.row hb; exact PD.not_wr hp.1 hc (by decide) (by decide))
  · intro q hq
    rcases List.mem_append.1 hq with hq | hq
    · have hz := h.all q (by simp [hq])
      exact ⟨PD.other hp.1 hz.1 (a4 q hq p (by simp)).symm hk, hz.2⟩
    · rcases List.mem_cons.1 hq with rfl | hq
      · exact ⟨hp', by rw [n1, n2, n3]; exact hp.2⟩
      · have hz := h.all q (by simp [hq])
        exact ⟨PD.other hp.1 hz.1 (a2 q hq) hk, hz.2⟩
  · rw [List.pairwise_append, List.pairwise_cons]
    refine ⟨a1, ⟨fun q hq => r1 q (a2 q hq), a3⟩, fun q hq z hz => ?_⟩
    rcases List.mem_cons.1 hz with rfl | hz
    · exact r2 q (a4 q hq p (by simp))
    · exact a4 q hq z (by simp [hz])

/-- one post more. -/
theorem Inv.more {B : Nat} {w w' : World} {wb : Nat} {pv pv' : Value} {ps : List PD} {q : PD} (h : Inv B w wb pv ps) (hB : B ≤ w.heap.size) (hw : w'.heap[wb]? = some (.cells #[pv', .slice none 0 0] 29 (0, 0))) (hrow : w'.ownsRow B 50 1 pv' ((ps.map PD.po).length + 1) ((ps.map PD.po ++ [q.po]).map (fun q => .pointer (some ⟨q, 0, none⟩)))) (hq : q.at w') (hn : ∀ k, pfoot q.po q.x q.d q.r q.tv q.mv q.fs q.s q.lb q.gb q.rt q.nv q.pv q.gv q.kv k → w.heap.size ≤ k) (hk : Kept (fun k => k = wb ∨ pv.ownBlock = some k) w w') : Inv B w' wb pv' (ps ++ [q]) := by
  have hall : ∀ p ∈ ps, p.at w' := fun p hp => PostW.kept (h.all p hp).1 hk (fun k hf => by
    have hkk : ∀ cs t, w.heap[k]? = some (.cells cs t (0, 0)) → t ≠ 29 → t ≠ 50 → ¬ (k = wb ∨ pv.ownBlock = some k) := fun cs t h0 h1 h2 e => by
      rcases e with rfl | e
      · rw [h.head] at h0; cases h0; exact h1 rfl
      · obtain ⟨cur, hc⟩ := owns_type h.row e; rw [hc] at h0; cases h0; exact h2 rfl
    have hkm : ∀ es cl, w.heap[k]? = some (.map es cl) → ¬ (k = wb ∨ pv.ownBlock = some k) := fun es cl h0 e => by
      rcases e with rfl | e
      · rw [h.head] at h0; cases h0
      · obtain ⟨cur, hc⟩ := owns_type h.row e; rw [hc] at h0; cases h0
    have hp1 := (h.all p hp).1
    rcases hf with rfl | hf | hf | hf | hf
    · have h1 := PostW.head hp1; unfold postObj at h1; exact hkk _ _ h1 (by decide) (by decide)
    · rcases hf with rfl | rfl | hf | rfl | rfl
      · exact hkk _ _ (PostW.mill hp1).head (by decide) (by decide)
      · exact hkk _ _ (PostW.mill hp1).set.head (by decide) (by decide)
      · obtain ⟨cur, hc⟩ := owns_type (PostW.mill hp1).set.trow hf; exact hkk _ _ hc (by decide) (by decide)
      · obtain ⟨es, cl, hb, _⟩ := (PostW.mill hp1).set.live; exact hkm _ _ hb
      · exact hkm _ _ (PostW.mill hp1).set.gone
    · rcases hf with rfl | hf
      · exact hkk _ _ (PostW.disk hp1).head (by decide) (by decide)
      · obtain ⟨cur, hc⟩ := owns_type (PostW.disk hp1).row hf; exact hkk _ _ hc (by decide) (by decide)
    · obtain ⟨cur, hc⟩ := owns_type (PostW.may hp1) hf; exact hkk _ _ hc (by decide) (by decide)
    · rcases hf with rfl | hf | hf | hf | hf | hf
      · exact hkk _ _ (PostW.ref hp1).head (by decide) (by decide)
      · obtain ⟨cur, hc⟩ := owns_type (PostW.ref hp1).trow hf; exact hkk _ _ hc (by decide) (by decide)
      · obtain ⟨cur, hc⟩ := owns_type (PostW.ref hp1).nrow hf; exact hkk _ _ hc (by decide) (by decide)
      · obtain ⟨cur, hc⟩ := owns_type (PostW.ref hp1).prow hf; exact hkk _ _ hc (by decide) (by decide)
      · obtain ⟨cur, hc⟩ := owns_type (PostW.ref hp1).grow hf; exact hkk _ _ hc (by decide) (by decide)
      · obtain ⟨cur, hc⟩ := owns_type (PostW.ref hp1).krow hf; exact hkk _ _ hc (by decide) (by decide))
  have q1 := hn q.po (.inl rfl)
  have q2 := hn q.x (.inr (.inl (.inl rfl)))
  have q3 := hn q.lb (.inr (.inl (.inr (.inr (.inr (.inl rfl))))))
  have q4 := hn q.gb (.inr (.inl (.inr (.inr (.inr (.inr rfl))))))
  refine ⟨hw, ?_, ?_, ?_⟩
  · simpa using hrow
  · intro p hp
    rcases List.mem_append.1 hp with hp | hp
    · exact ⟨hall p hp, (h.all p hp).2⟩
    · obtain rfl := List.mem_singleton.1 hp
      exact ⟨hq, by omega, by omega, by omega⟩
  · rw [List.pairwise_append]
    refine ⟨h.apart, List.pairwise_singleton _ _, fun p hp z hz => ?_⟩
    obtain rfl := List.mem_singleton.1 hz
    have hp1 := (h.all p hp).1
    have l1 := lt_of_heap (PostW.head hp1)
    have l2 := lt_of_heap (PostW.mill hp1).head
    have l3 : p.lb < w.heap.size := by obtain ⟨es, cl, hb, _⟩ := (PostW.mill hp1).set.live; exact lt_of_heap hb
    have l4 := lt_of_heap (PostW.mill hp1).set.gone
    exact ⟨by omega, by omega, by omega, by omega, by omega⟩
end Go.Proofs.YtgadceofpbfleaaGreat

/- What a step keeps, where nothing is picked: Takes. -/
namespace Go.Proofs.YtgadceofpbfleaaGreat
open Go.RowKit Go.Maps Go.Shelf
set_option linter.unusedVariables false

def Good (w : World) (k : Nat) (W : World) : Prop := ∃ pv ps, Inv w.heap.size W w.heap.size pv ps ∧ ps.length ≤ k ∧ Below w.heap.size w W

theorem good_upd {w W w' : World} {k : Nat} {pv : Value} {l1 l2 : List PD} {p p' : PD} (h : Inv w.heap.size W w.heap.size pv (l1 ++ p :: l2)) (hl : (l1 ++ p :: l2).length ≤ k) (hb : Below w.heap.size w W) (hn : p'.po = p.po ∧ p'.x = p.x ∧ p'.lb = p.lb ∧ p'.gb = p.gb) (hp' : p'.at w') (hk : Kept p.wr W w') : Good w k w' := by
  refine ⟨pv, l1 ++ p' :: l2, h.upd hn hp' hk, by simpa using hl, hb.trans (hk.below hb.size (fun j e => ?_))⟩
  obtain ⟨_, b1, b2, b3⟩ := h.all p (by simp)
  rcases e with rfl | rfl | rfl <;> assumption

theorem gone_no {p : PD} {w : World} (h : p.at w) : w.cell? ⟨p.po, 14, none⟩ = some (.bool false) := by
  have h1 := PostW.head h
  unfold postObj at h1
  rw [rcell h1]; rfl

theorem fst_ts {W : World} {ta : Nat} (h : W.heap[ta]? = some (.cells #[.int .i64 (-1), .int .i64 1, .int .i64 0] 32 (0, 0))) : TS W (some ⟨ta, 0, none⟩) 1 (fun _ => -1) (fun _ => 1) (fun _ => 0) := fun _ => by
  refine ⟨ta, 0, rfl, lt_of_heap h, fun i hi => ?_⟩
  obtain rfl : i = 0 := by omega
  exact ⟨by rw [rcell h]; rfl, by rw [rcell h]; rfl, by rw [rcell h]; rfl⟩
theorem right_one : rightB 1 1 0 1 0 9 1 (fun _ => -1) (fun _ => 1) (fun _ => 0) = true := by decide

theorem good_opens {w W : World} {k : Nat} (o : Ops) (hf : o.fits) (F Wd K : Nat → Int) (hts : TS w o.fa o.fn F Wd K) (hk : k + 1 ≤ 1099511627776) (hg : Good w k W) :
    Calls Tryz.prog 6 #[.pointer (some ⟨w.heap.size, 0, none⟩), .agg #[.int .i64 o.fs, .int .i64 o.fle, .int .i64 o.fla, .int .i64 o.fwi, .int .i64 o.fke, .int .i64 o.fqu, .slice o.fa o.fn o.fcap], .int .i64 (-1)] W fun e w' => e = .returned (.bool true) ∧ Good w (k + 1) w' := by
  obtain ⟨pv, ps, hI, hl, hb⟩ := hg
  have htW := hts.below hb
  cases hr : rightB o.fs o.fle o.fla o.fwi o.fke o.fqu o.fn F Wd K with
  | false =>
    exact (opened_bad ⟨o.fs, o.fle, o.fla, o.fwi, o.fke, o.fqu, o.fn, F, Wd, K⟩ hf.size hr o.fa o.fcap w.heap.size W htW).mono fun e w' ⟨e1, e2⟩ => ⟨e1, pv, ps, hI.later e2, by omega, hb.trans (e2.mono hb.size)⟩
  | true =>
    refine (opened_good ⟨o.fs, o.fle, o.fla, o.fwi, o.fke, o.fqu, o.fn, F, Wd, K⟩ (right_ok hr) hr o.fa o.fcap w.heap.size W htW hI.head hb.size hI.row (by simp [maxLen]; omega) (by simp; omega)).mono ?_
    rintro e w' ⟨e1, po, x, d, r, tv, mv, fs, s, lb, gb, B0, B1, rt, pv', hp, hw, hrow, hfr, hkp⟩
    refine ⟨e1, pv', ps ++ [⟨po, x, d, r, ⟨o.fs, o.fle, o.fla, o.fwi, o.fke, o.fqu, o.fn, F, Wd, K⟩, .slice o.fa o.fn o.fcap, tv, mv, fs, 1, 0, s, lb, gb, [], B0, B1, ⟨⟨o.fs, o.fle, o.fla, o.fwi, o.fke, o.fqu, o.fn, F, Wd, K⟩, 0, [], [], [], [], 1, 0⟩, rt, .slice none 0 0, .slice none 0 0, .slice none 0 0, .slice none 0 0⟩], hI.more (q := ⟨po, x, d, r, ⟨o.fs, o.fle, o.fla, o.fwi, o.fke, o.fqu, o.fn, F, Wd, K⟩, .slice o.fa o.fn o.fcap, tv, mv, fs, 1, 0, s, lb, gb, [], B0, B1, ⟨⟨o.fs, o.fle, o.fla, o.fwi, o.fke, o.fqu, o.fn, F, Wd, K⟩, 0, [], [], [], [], 1, 0⟩, rt, .slice none 0 0, .slice none 0 0, .slice none 0 0, .slice none 0 0⟩) hb.size hw hrow hp hfr hkp, by simp; omega, hb.trans (hkp.below hb.size (fun j e => ?_))⟩
    rcases e with rfl | e
    · exact Nat.le_refl _
    · exact own_base hI.row e

theorem takes_keeps (w : World) (n : Nat) (G : Nat → Ops) (T : Nat → (Nat → Int) × (Nat → Int) × (Nat → Int)) (hn : n ≤ 1099511627776) (hT : ∀ i, i < n → TS w (G i).fa (G i).fn (T i).1 (T i).2.1 (T i).2.2) (hG : ∀ i, i < n → (G i).fits) :
    Keeps w n G 5 (Good w) where
  low := fun k W ⟨_, _, _, _, h⟩ => h
  head := fun k W ⟨pv, _, h, _, _⟩ => ⟨pv, h.head⟩
  later := fun k W W' ⟨pv, ps, h, hl, hb⟩ h' => ⟨pv, ps, h.later h', hl, hb.trans (h'.mono hb.size)⟩
  next := fun k W ⟨pv, ps, h, hl, hb⟩ => ⟨pv, ps, h, by omega, hb⟩
  start := fun W hb hw => ⟨_, [], ⟨hw, World.ownsRow_nil _ _ _ _, (fun p hp => by cases hp), List.Pairwise.nil⟩, Nat.le_refl _, hb⟩
  fst := fun W ta hb hw ht => by
    refine (opened_good ⟨1, 1, 0, 1, 0, 9, 1, fun _ => -1, fun _ => 1, fun _ => 0⟩ (right_ok right_one) right_one (some ⟨ta, 0, none⟩) 1 w.heap.size W (fst_ts ht) (ps := []) hw hb.size (World.ownsRow_nil _ _ _ _) (by simp [maxLen]) (by simp)).mono ?_
    rintro e w' ⟨e1, po, x, d, r, tv, mv, fs, s, lb, gb, B0, B1, rt, pv', hp, hw, hrow, hfr, hkp⟩
    obtain ⟨pa, pc, rfl⟩ := row_slice hrow
    refine ⟨e1, hb.trans (hkp.below hb.size (fun j e => ?_)), pa, pc, hw⟩
    rcases e with rfl | e
    · exact Nat.le_refl _
    · cases e
  opens := fun k W hk h1 hg => by
    rw [h1]
    refine stp_1 (G k) _ (fun w4 hb4 => ?_)
    obtain ⟨pv, ps, h, hl, hb⟩ := hg
    exact good_opens (G k) (hG k hk) _ _ _ (hT k hk) (by omega) ⟨pv, ps, h.later hb4, hl, hb.trans (hb4.mono hb.size)⟩
  steps := fun k W hk h1 hla hg => by
    obtain ⟨pv, ps, hI, hl, hb⟩ := hg
    have hfit := hG k hk
    by_cases h0 : ps = []
    · subst h0
      obtain ⟨pa, pc, hpv⟩ := row_slice hI.row
      simp at hpv
      subst hpv
      exact (stp_none hI.head (G k) (G k).kd h1 (by omega)).mono fun e w' ⟨e1, e2⟩ => ⟨e1, _, [], hI.later e2, Nat.zero_le _, hb.trans (e2.mono hb.size)⟩
    · have hpos : 0 < ps.length := List.length_pos_iff.2 h0
      obtain ⟨i, hi, hpk⟩ := pick_at (G k).on (ps.map PD.po).length hfit.on (by simpa using hpos)
      have hi' : i < ps.length := by simpa using hi
      have hpi : (ps.map PD.po)[i]? = some ps[i].po := by simp [hi']
      have hmem : ps[i] ∈ ps := List.getElem_mem hi'
      generalize ps[i] = p at *
      obtain ⟨l1, l2, rfl⟩ := List.append_of_mem hmem
      have hp := hI.all p hmem
      have hgo := gone_no hp.1
      have hpl := lt_of_heap (PostW.head hp.1)
      have hll : (l1 ++ p :: l2).length ≤ k + 1 := by omega
      have hlow : ∀ w4, Below W.heap.size W w4 → Inv w.heap.size w4 w.heap.size pv (l1 ++ p :: l2) ∧ Below w.heap.size w w4 ∧ p.at w4 := fun w4 h4 => ⟨hI.later h4, hb.trans (h4.mono hb.size), hp.1.later h4⟩
      by_cases h2 : (G k).kd = 2
      · rw [h2]
        refine stp_2 hI.head hI.row hpi hpl hgo (G k) hpk _ (fun w4 h4 => ?_)
        obtain ⟨hI4, hb4, hp4⟩ := hlow w4 h4
        refine (changed_ing hp4 (G k) hfit.v).mono ?_
        rintro e w' ⟨e1, r', B', mv', rt', nv', pv', gv', kv', hp', hkp⟩
        exact ⟨e1, good_upd (p' := ⟨p.po, p.x, p.d, r', p.c, p.ct, p.tv, mv', p.fs, p.ep, p.now, p.s, p.lb, p.gb, _, p.B0, B', _, rt', nv', pv', gv', kv'⟩) hI4 hll hb4 ⟨rfl, rfl, rfl, rfl⟩ hp' (hkp.mono fun j _ e => by rcases e with e | e; exact .inr (.inr e); exact .inl e)⟩
      by_cases h3 : (G k).kd = 3
      · rw [h3]
        refine stp_3 hI.head hI.row hpi hpl hgo (G k) hpk _ (fun w4 h4 => ?_)
        obtain ⟨hI4, hb4, hp4⟩ := hlow w4 h4
        refine (changed_tick hp4 (G k) hfit.a).mono ?_
        rintro e w' ⟨e1, r', B', mv', rt', nv', pv', gv', kv', hp', hkp⟩
        exact ⟨e1, good_upd (p' := ⟨p.po, p.x, p.d, r', p.c, p.ct, p.tv, mv', p.fs, p.ep, _, p.s, p.lb, p.gb, p.L, p.B0, B', _, rt', nv', pv', gv', kv'⟩) hI4 hll hb4 ⟨rfl, rfl, rfl, rfl⟩ hp' (hkp.mono fun j _ e => by rcases e with e | e; exact .inr (.inl e); exact .inl e)⟩
      by_cases h4 : (G k).kd = 4
      · rw [h4]
        refine stp_4 hI.head hI.row hpi hpl hgo (G k) hpk _ (fun w4 h4 => ?_)
        obtain ⟨hI4, hb4, hp4⟩ := hlow w4 h4
        refine (asked_query hp4 (G k)).mono ?_
        rintro e w' ⟨e1, mv', hp', hkp⟩
        exact ⟨e1, good_upd (p' := ⟨p.po, p.x, p.d, p.r, p.c, p.ct, p.tv, mv', p.fs, p.ep, p.now, p.s, p.lb, p.gb, p.L, p.B0, p.B1, p.m, p.rt, p.nv, p.pv, p.gv, p.kv⟩) hI4 hll hb4 ⟨rfl, rfl, rfl, rfl⟩ hp' (hkp.mono fun j _ e => .inl e)⟩
      by_cases h5 : (G k).kd = 5
      · rw [h5]
        refine stp_5 hI.head hI.row hpi hpl hgo (G k) hpk _ (fun w4 h4 => ?_)
        obtain ⟨hI4, hb4, hp4⟩ := hlow w4 h4
        refine (asked_stats hp4 (G k)).mono ?_
        rintro e w' ⟨e1, mv', hp', hkp⟩
        exact ⟨e1, good_upd (p' := ⟨p.po, p.x, p.d, p.r, p.c, p.ct, p.tv, mv', p.fs, p.ep, p.now, p.s, p.lb, p.gb, p.L, p.B0, p.B1, p.m, p.rt, p.nv, p.pv, p.gv, p.kv⟩) hI4 hll hb4 ⟨rfl, rfl, rfl, rfl⟩ hp' (hkp.mono fun j _ e => .inl e)⟩
      exact (stp_other hI.head hI.row hpi hpl hgo (G k) hpk (G k).kd (by omega)).mono fun e w' ⟨e1, e2⟩ => ⟨e1, pv, l1 ++ p :: l2, hI.later e2, hll, hb.trans (e2.mono hb.size)⟩

theorem takes_any (a : Option Addr) (n cap : Nat) (G : Nat → Ops) (T : Nat → (Nat → Int) × (Nat → Int) × (Nat → Int)) (w : World) (h : OS w a n G) (hn : n ≤ 1099511627776) (hT : ∀ i, i < n → TS w (G i).fa (G i).fn (T i).1 (T i).2.1 (T i).2.2) (hG : ∀ i, i < n → (G i).fits) :
    Calls Tryz.prog 3 #[.slice a n cap] w fun e w' => e = .returned (.bool true) ∧ Below w.heap.size w w' := by
  have HP := hide (plays_gen a n cap G 5 (by omega) w h hn _ (takes_keeps w n G T hn hT hG))
  clear h hn hT hG
  go_enter Tryz.func3, Tryz.ntmps3
  go_wp2_with (first | (go_at_call 5; refine (unhide HP).mono ?_; rintro e w' ⟨rfl, hb⟩) | fail)
  go_ret
  exact ⟨rfl, hb⟩
end Go.Proofs.YtgadceofpbfleaaGreat
