import Derived.Test.YtpbimdkclnekeaaGreatKInv1
import Derived.Test.YtpbimdkclnekeaaGreatKMlz7

namespace Go.Proofs.YtpbimdkclnekeaaGreat
open Go.RowKit Go.Maps Go.Shelf
set_option linter.unusedVariables false
section
variable {c : Cf} {ep : Int} {m : MS} {ns : List Nm}
theorem putL_new {L : LV} {s : Sg} {v : SV} : (s, v) ∈ zeg L s v := by
 unfold zeg
 by_cases h : s ∈ zaq L
 ·rw [if_pos h]
  obtain ⟨p, hp, e⟩ := List.mem_map.1 (show s ∈ L.map (·.1) from h)
  exact List.mem_map.2 ⟨p, hp, by rw [if_pos e]⟩
 ·rw [if_neg h]; simp
theorem putL_old {L : LV} {s : Sg} {v : SV} {p : Sg × SV} (hp : p ∈ L) (hne : p.1 ≠ s) : p ∈ zeg L s v := by
 unfold zeg
 by_cases h : s ∈ zaq L
 ·rw [if_pos h]
  exact List.mem_map.2 ⟨p, hp, by rw [if_neg hne]⟩
 ·rw [if_neg h]; simp [hp]
theorem addL_mem {L : LV} {x : Nm} {p : Sg × SV} (hp : p ∈ addL c L x) : p = (zbz c x, ⟨1, zdu x.val ((getL L (zbz c x)).map (·.cl))⟩) \/ (p ∈ L /\ p.1 ≠ zbz c x) \/ ∃ j : Nat, j < c.n /\ p = (zaz c (j : Int) x, ⟨2, zdn⟩) /\ zaz c (j : Int) x ∉ zaq L := by
 rcases addTo_mem x c.n _ hp with hp | ⟨j, hj, e, hn⟩
 ·rcases zdp hp with hp | hp
  ·exact .inl hp
  ·exact .inr (.inl hp)
 ·exact .inr (.inr ⟨j, hj, e, fun hk => hn (zcw.2 (.inl hk))⟩)
theorem addL_old {L : LV} {x : Nm} {p : Sg × SV} (hp : p ∈ L) (hne : p.1 ≠ zbz c x) : p ∈ addL c L x := addTo_old x c.n _ (putL_old hp hne)
theorem addL_keys {L : LV} {x : Nm} {s : Sg} (h : s ∈ zaq L) : s ∈ zaq (addL c L x) := by
 have h1 : s ∈ zaq (zcy c L x) := by unfold zcy; exact zcw.2 (.inl h)
 obtain ⟨p, hp, e⟩ := List.mem_map.1 (show s ∈ (zcy c L x).map (·.1) from h1)
 subst e
 exact key_of (addTo_old x c.n _ hp)
theorem addL_wt {L : LV} {x : Nm} {y : Sg} (h : Wt (addL c L x) y) : Wt L y \/ ∃ j : Nat, j < c.n /\ y = zaz c (j : Int) x /\ y ∉ zaq L := by
 obtain ⟨v, hv, h2⟩ := h
 rcases addL_mem hv with e | ⟨hv, _⟩ | ⟨j, hj, e, hn⟩
 ·injection e with e1 e2; subst e2; simp at h2
 ·exact .inl ⟨v, hv, h2⟩
 ·injection e with e1 e2; exact .inr ⟨j, hj, e1, by rw [e1]; exact hn⟩
theorem joinNew_isC {L : LV} {x : Nm} (hsg : SegOk c m.now m.L m.Gl) (hc : c.ok) (hv : -2147483648 <= x.val /\ x.val <= 2147483647) {P : Nm -> Prop} [DecidablePred P] (hP : P x)
  (h : ∀ o, getL m.L (zbz c x) = some o -> IsC P ns o.cl) (h0 : getL m.L (zbz c x) = none -> ∀ y ∈ ns, ¬ P y) : IsC P (ns ++ [x]) (zdu x.val ((getL m.L (zbz c x)).map (·.cl))) := by
 cases hg : getL m.L (zbz c x) with
 | none =>
  have := (IsC.zero (h0 hg)).add hP
  have e : addW zdn x.val = zdu x.val none := by
   simp only [addW, zdn, zdu, Int.zero_add, true_or, if_true]
   rw [show wrap64 x.val = x.val by unfold wrap64; omega]
  rw [e] at this
  exact this
 | some o =>
  obtain ⟨h1, h2, h3, h4, h5⟩ := MOk.rawAt hsg hc hg
  have := (h o hg).add hP
  have e : addW o.cl x.val = zdu x.val (some o.cl) := by
   have hne : ¬ o.cl.cnt = 0 := by omega
   simp only [addW, zdu, hne, false_or]
   rw [show wrap64 (o.cl.sum + x.val) = x.val + o.cl.sum by unfold wrap64; omega, Int.add_comm o.cl.cnt]
   congr 1
   ·by_cases h1 : o.cl.mn < x.val
    ·rw [if_pos h1, if_neg (by omega)]
    ·rw [if_neg h1]; split <;> omega
   ·by_cases h1 : x.val < o.cl.mx
    ·rw [if_pos h1, if_neg (by omega)]
    ·rw [if_neg h1]; split <;> omega
  rw [e] at this
  exact this
theorem RInv.added (hc : c.ok) (hf : c.fits) (hm : MOk c ep m) (h : RInv c m ns) {x : Nm} (hs : 0 <= x.ser /\ x.ser < 4) (hx : 0 <= x.tm /\ x.tm <= m.now) (hl : m.now - c.la <= x.tm) (hv : -2147483648 <= x.val /\ x.val <= 2147483647) :
  RInv c { m with L := addL c m.L x } (ns ++ [x]) := by
 have hold : ∀ {y : Nm}, y ∈ ns ++ [x] -> y ∈ ns \/ y = x := fun hy => by
  rcases List.mem_append.1 hy with hy | hy
  ·exact .inl hy
  ·exact .inr (List.mem_singleton.1 hy)
 have hng : ∀ t : Int, -1 <= t -> t < c.n -> zaz c t x ∉ zas m.Gl := fun t h1 h2 => open_not_gone hc hm hl h1 h2
 have hn1 := hc.n1
 have hpub : ∀ y, Pub m.L y -> Pub (addL c m.L x) y := fun y ⟨v, hv', h3⟩ => ⟨v, addL_old hv' (fun e => by
  have h4 := (hm.seg.raw _ hv' (by rw [show y = zbz c x from e]; rfl)).1
  simp only at h4; omega), h3⟩
 -- no waiting segment of an elder number is new
 have hwt : ∀ y ∈ ns, ∀ t : Int, -1 <= t -> t < c.n -> Wt (addL c m.L x) (zaz c t y) -> Wt m.L (zaz c t y) := fun y hy t h1 h2 hw => by
  rcases addL_wt hw with hw | ⟨j, hj, e, hn⟩
  ·exact hw
  ·exfalso
   rcases h.keys y hy t h1 h2 with hk | hk
   ·exact hn hk
   ·rw [e] at hk; exact hng j (by omega) (by omega) hk
 have hself : ∀ s : Sg, s ∈ zaq m.L -> c.clo m.now s -> zaz c s.t x ≠ s := fun s hk hcl e => by
  have hin := hm.seg.inr _ (zcc hk)
  exact seg_open hc hin.2.1 hin.2.2.1 hl (by rw [e]; exact hcl)
 refine ⟨fun y hy => ?_, fun y hy t h1 h2 => ?_, fun s hs' => ?_, fun y hy k hk hg => ?_, h.over, fun p hp hst => ?_, fun p hp => ?_⟩
 ·rcases hold hy with hy | rfl
  ·exact h.tm y hy
  ·exact ⟨hx.1, hx.2, hs.1, hs.2, hv⟩
 ·rcases hold hy with hy | rfl
  ·exact (h.keys y hy t h1 h2).imp addL_keys id
  ·left
   by_cases ht : t = -1
   ·subst ht
    have h1 : zbz c y ∈ zaq (zcy c m.L y) := by unfold zcy; exact zcw.2 (.inr rfl)
    obtain ⟨p, hp, e⟩ := List.mem_map.1 (show zbz c y ∈ (zcy c m.L y).map (·.1) from h1)
    show zbz c y ∈ _
    rw [<- e]
    exact key_of (addTo_old y c.n _ hp)
   ·have := addTo_new (c := c) y c.n (zcy c m.L y) t.toNat (by omega)
    rw [show ((t.toNat : Nat) : Int) = t by omega] at this
    exact this
 ·obtain ⟨p, hp, rfl⟩ := List.mem_map.1 (show s ∈ (addL c m.L x).map (·.1) from hs')
  rcases addL_mem hp with rfl | ⟨hp, _⟩ | ⟨j, hj, rfl, _⟩
  ·exact ⟨x, by simp, rfl⟩
  ·obtain ⟨y, hy, e⟩ := h.has _ (key_of hp)
   exact ⟨y, by simp [hy], e⟩
  ·exact ⟨x, by simp, rfl⟩
 ·have hF := hf.down k hk
  rcases hold hy with hy | rfl
  ·exact (h.gone y hy k hk hg).imp id (hpub _)
  ·exact absurd hg (hng _ hF.1 (by omega))
 ·rcases addL_mem hp with rfl | ⟨hp, hne⟩ | ⟨j, hj, rfl, _⟩
  ·refine joinNew_isC (L := m.L) hm.seg hc hv rfl (fun o ho => ?_) (fun ho y hy e => ?_)
   ·have hmo := getL_mem ho
    have h1 := (hm.seg.raw _ hmo rfl).1
    exact h.cell _ hmo (by simp only at h1 ⊢; omega)
   ·have e' : zaz c (-1) y = zbz c x := e
    rcases h.keys y hy (-1) (by omega) (by omega) with hk | hk
    ·exact getL_none.1 ho (e' ▸ hk)
    ·exact hng (-1) (by omega) (by omega) (show zbz c x ∈ _ from e' ▸ hk)
  ·refine (h.cell p hp hst).skip (fun e => ?_)
   have hin := hm.seg.inr p hp
   by_cases ht : p.1.t = -1
   ·exact hne (by rw [<- e, ht]; rfl)
   ·rcases hm.seg.tier p hp (by have := hin.2.1; omega) with h2 | h3
    ·exact hst h2
    ·exact open_not_pub hc hm hl hin.2.1 hin.2.2.1 ⟨p.2, by rw [e]; exact hp, h3⟩
  ·exact absurd rfl hst
 ·have ho := hm.tasks p hp
  have hin := hm.seg.inr _ (zcc ho.mem)
  have hR := h.tasks p hp
  refine ⟨fun e k hk y hy hys hw => ?_, fun e => ⟨(hR.recl e).1, fun y hy hys k hk hF hw => ?_⟩⟩
  ·have hkn : k < c.n := by have := hin.2.2.1; simp only at this; omega
   have hFk := hf.down k hkn
   rcases hold hy with hy | rfl
   ·exact hR.roll e k hk y hy hys (hwt y hy _ hFk.1 (by omega) hw)
   ·exact hself _ ho.mem ho.clo hys
  ·rcases hold hy with hy | rfl
   ·exact (hR.recl e).2 y hy hys k hk hF (hwt y hy _ (by omega) (by omega) hw)
   ·exact hself _ ho.mem ho.clo hys
theorem win_iff {q y v : Int} (hq : 1 <= q) : y / q = v ↔ v * q <= y /\ y < v * q + q := by
 constructor
 ·intro h
  subst h
  have h1 := Int.emod_add_mul_ediv y q
  have h2 := Int.emod_nonneg y (show q ≠ 0 by omega)
  have h3 := Int.emod_lt_of_pos y (show 0 < q by omega)
  rw [Int.mul_comm] at h1
  omega
 ·rintro ⟨h1, h2⟩
  have h3 : v <= y / q := (Int.le_ediv_iff_mul_le (by omega)).2 h1
  have h4 : y / q < v + 1 := (Int.ediv_lt_iff_lt_mul (by omega)).2 (by rw [Int.add_mul, Int.one_mul]; exact h2)
  omega
theorem RInv.rolled (hc : c.ok) (hf : c.fits) (hm : MOk c ep m) (h : RInv c m ns) (hlen : (ns.length : Int) < 9223372036854775808) {j : Jk} {s : Sg} {since tries rest : Int} {k : Nat} (hx : zbq m.TL j = some ⟨true, s, since, tries, rest⟩) (hk : s.t = k) (Q1 : List (Tok × Lse)) :
  RInv c { m with L := zeg m.L s ⟨3, zcd (zcf c m.L s.ser s.win k)⟩, TL := zby m.TL j, QL := Q1 } ns := by
 have ho := hm.tasks _ (zbj hx)
 have hR := (h.tasks _ (zbj hx)).roll rfl
 have hmem : s ∈ zaq m.L := ho.mem
 have hin := hm.seg.inr _ (zcc hmem)
 have hst : (stL m.L s).st = 2 := ho.roll rfl
 have hkn : k < c.n := by have := hin.2.2.1; simp only at this; omega
 have hF := hf.down k hkn
 have hwf := (hc.width hF.1 (show c.F k < c.n by omega)).1
 obtain ⟨q, hq1, hq⟩ := hf.quot k hkn
 have hmany : zcx c k = q := by
  unfold zcx
  rw [width_nat, hq, Int.mul_ediv_cancel_left _ (by omega)]
 have hin2 : ∀ x ∈ ns, (x.ser = s.ser /\ s.win * q <= x.tm / c.width (c.F k) /\ x.tm / c.width (c.F k) < s.win * q + q) ↔ zaz c s.t x = s := fun x hxn => by
  have h0 := (h.tm x hxn).1
  rw [<- win_iff hq1, Int.ediv_ediv_of_nonneg (by omega), <- hq, hk]
  obtain ⟨st, ss, sw⟩ := s
  simp only at hk ⊢
  unfold zaz
  rw [width_nat]
  subst hk
  simp only [Sg.mk.injEq, true_and]
 have hpubne : ¬ Pub m.L s := fun ⟨v, hv, h3⟩ => by rw [mem_one hm.seg.nl (zcc hmem) hv] at hst; omega
 have hcell : IsC (fun x => zaz c s.t x = s) ns (zcd (zcf c m.L s.ser s.win k)) := by
  unfold zcf
  rw [hmany]
  have hcast : ((q.toNat : Nat) : Int) = q := by omega
  have := (stand_isC (L := m.L) (wd := c.width (c.F k)) (f := c.F k) (ser := s.ser) (a := s.win * q) hlen q.toNat (fun i hi => ?_)).1
  ·rw [hcast] at this
   exact this.congr hin2
  ·have hiq : (i : Int) < q := by omega
   have hkey : ∀ x : Nm, (x.ser = s.ser /\ x.tm / c.width (c.F k) = s.win * q + i) ↔ zaz c (c.F k) x = ⟨c.F k, s.ser, s.win * q + i⟩ := fun x => by
    unfold zaz; simp only [Sg.mk.injEq, true_and]
   have hup : ∀ x ∈ ns, (x.ser = s.ser /\ x.tm / c.width (c.F k) = s.win * q + i) -> zaz c s.t x = s := fun x hxn e => (hin2 x hxn).1 ⟨e.1, by omega, by omega⟩
   refine ⟨fun v hv => ?_, fun hn x hxn e => ?_⟩
   ·have hvm := getL_mem hv
    obtain ⟨y, hy, e⟩ := h.has _ (key_of hvm)
    have e' := (hkey y).2 e
    have hnw : v.st ≠ 2 := fun h2 => hR k hk y hy (hup y hy e') ⟨v, by rw [(hkey y).1 e']; exact hvm, h2⟩
    have hC := h.cell _ hvm hnw
    refine ⟨hC.congr (fun x _ => (hkey x).symm), fun h0 => cntP_zero.1 h0 y hy e'⟩
   ·have e1 := (hkey x).1 e
    rcases h.keys x hxn (c.F k) hF.1 (by omega) with hh | hh
    ·exact getL_none.1 hn (e1 ▸ hh)
    ·have hs := hup x hxn e
     have hs' : zaz c (k : Int) x = s := by rw [<- hk]; exact hs
     rcases h.gone x hxn k hkn hh with hg | hg
     ·rw [hs'] at hg; exact hm.seg.disj _ (zcc hmem) hg
     ·rw [hs'] at hg; exact hpubne hg
 have hwt : ∀ y, Wt (zeg m.L s ⟨3, zcd (zcf c m.L s.ser s.win k)⟩) y -> Wt m.L y := fun y ⟨v, hv, h2⟩ => by
  rcases zdp hv with e | ⟨hv, _⟩
  ·injection e with e1 e2; subst e2; simp at h2
  ·exact ⟨v, hv, h2⟩
 refine ⟨h.tm, fun x hxn t h1 h2 => (h.keys x hxn t h1 h2).imp (fun hh => zcw.2 (.inl hh)) id, fun y hy => ?_, fun x hxn k' hk' hg => ?_, h.over, fun p hp hpst => ?_, fun p hp => ((h.tasks p (zbw.1 hp).1).live hwt)⟩
 ·rcases zcw.1 hy with hy | rfl
  ·exact h.has y hy
  ·exact h.has _ hmem
 ·rcases h.gone x hxn k' hk' hg with hh | ⟨v, hv, h3⟩
  ·exact .inl hh
  ·right
   by_cases e : zaz c (k' : Int) x = s
   ·rw [e]; exact ⟨_, putL_new, rfl⟩
   ·exact ⟨v, putL_old hv e, h3⟩
 ·rcases zdp hp with rfl | ⟨hp, _⟩
  ·exact hcell
  ·exact h.cell p hp hpst
theorem RInv.reclaimed (hc : c.ok) (hf : c.fits) (hm : MOk c ep m) (h : RInv c m ns) {j : Jk} {s : Sg} {since tries rest : Int} (hx : zbq m.TL j = some ⟨false, s, since, tries, rest⟩) (Q1 : List (Tok × Lse)) :
  RInv c { m with L := zby m.L s, Gl := zdz m.Gl s (), TL := zby m.TL j, QL := Q1 } ns := by
 have ho := hm.tasks _ (zbj hx)
 have hR := (h.tasks _ (zbj hx)).recl rfl
 have hmem : s ∈ zaq m.L := ho.mem
 have hdel : ∀ y, y ∈ zaq m.L -> y ≠ s -> y ∈ zaq (zby m.L s) := fun y hy hne => by
  obtain ⟨p, hp, rfl⟩ := List.mem_map.1 (show y ∈ m.L.map (·.1) from hy)
  exact key_of (zbw.2 ⟨hp, hne⟩)
 have hwt : ∀ y, Wt (zby m.L s) y -> Wt m.L y := fun y ⟨v, hv, h2⟩ => ⟨v, (zbw.1 hv).1, h2⟩
 refine ⟨h.tm, fun x hxn t h1 h2 => ?_, fun y hy => ?_, fun x hxn k hk hg => ?_, fun y hy => ?_, fun p hp hpst => h.cell p (zbw.1 hp).1 hpst, fun p hp => ((h.tasks p (zbw.1 hp).1).live hwt)⟩
 ·by_cases e : zaz c t x = s
  ·exact .inr (zcg.2 (.inr e))
  ·exact (h.keys x hxn t h1 h2).imp (fun hh => hdel _ hh e) (fun hh => zcg.2 (.inl hh))
 ·obtain ⟨p, hp, rfl⟩ := List.mem_map.1 (show y ∈ (zby m.L s).map (·.1) from hy)
  exact h.has _ (key_of (zbw.1 hp).1)
 ·by_cases e : zaz c (k : Int) x = s
  ·exact .inl (zcg.2 (.inr e))
  ·have hpd : Pub m.L (zaz c (k : Int) x) -> Pub (zby m.L s) (zaz c (k : Int) x) := fun ⟨v, hv, h3⟩ => ⟨v, zbw.2 ⟨hv, e⟩, h3⟩
   rcases zcg.1 hg with hg | hg
   ·exact (h.gone x hxn k hk hg).imp (fun hh => zcg.2 (.inl hh)) hpd
   ·have hFs : c.F k = s.t := by rw [<- hg]; rfl
    have hnw := hR.2 x hxn (by rw [<- hFs]; exact hg) k hk hFs
    rcases h.keys x hxn k (by omega) (by omega) with hh | hh
    ·right
     refine hpd ⟨_, zcc hh, ?_⟩
     rcases hm.seg.tier _ (zcc hh) (by show (0 : Int) <= k; omega) with h2 | h3
     ·exact absurd ⟨_, zcc hh, h2⟩ hnw
     ·exact h3
    ·exact .inl (zcg.2 (.inl hh))
 ·rcases zcg.1 hy with hy | rfl
  ·exact h.over y hy
  ·exact hR.1
theorem RInv.act (hc : c.ok) (hf : c.fits) {m' : MS} {ns' : List Nm} (hs : SOk c ep m ns.length) (h : RInv c m ns) (hlen : (ns.length : Int) < 9223372036854775808) (ha : Act1 c ep m ns m' ns') : RInv c m' ns' := by
 cases ha with
 | same => exact h
 | added x h1 h2 h3 h4 h5 => exact h.added hc hf hs.ok h1 h2 h3 h4
 | ticked n TL1 TL' QL1 hn hnow he hq hp =>
  have h1 : RInv c { m with now := m.now + n, TL := TL1, QL := QL1 } ns := h.ticked (by omega) (exps_mem he) m.num
  have hsg : SegOk c (m.now + n) m.L m.Gl := (hs.tick hc hf hn hnow he hq hp).1.ok.seg
  exact h1.post hc hf hsg hp
 | taken p slot hp hfr => exact h.ticked (Int.le_refl _) (fun p hp => ⟨p, hp, rfl, rfl⟩) _
 | failed t g x hg hx => exact h.ticked (Int.le_refl _) (fun p hp => failed_mem hx hp) m.num
 | rolled t g s since tries rest k TL' hg hx hk hp =>
  have h1 := h.rolled hc hf hs.ok hlen hx hk (zby m.QL t)
  have hsg := (hs.ok.rolled hg hx rfl (zcd (zcf c m.L s.ser s.win k))).1.seg
  exact h1.post hc hf hsg hp
 | reclaimed t g s since tries rest TL' hg hx hp =>
  have h1 := h.reclaimed hc hf hs.ok hx (zby m.QL t)
  have hsg := (hs.ok.reclaimed hg hx rfl).1.seg
  exact h1.post hc hf hsg hp
theorem RInv.start (c : Cf) (now : Int) : RInv c ⟨now, [], [], 0, [], []⟩ [] :=
 ⟨fun x hx => (by cases hx), fun x hx => (by cases hx), fun s hs => (by cases hs), fun x hx => (by cases hx), fun s hs => (by cases hs), fun p hp => (by cases hp), fun p hp => (by cases hp)⟩
inductive Told (c : Cf) (m : MS) (ns : List Nm) (x : Nm) (t : Int) (q : Cl × Int) : Prop
 | opn (h1 : ¬ c.clo m.now (zaz c t x)) (h2 : q = (zdn, 9))
 | ok (h1 : c.clo m.now (zaz c t x)) (h2 : q.2 = 0) (h3 : IsC (fun y => zaz c t y = zaz c t x) ns q.1)
 | wait (h1 : c.clo m.now (zaz c t x)) (h2 : q = (zdn, 11)) (h3 : 0 <= t)
 | gone (h1 : c.clo m.now (zaz c t x)) (h2 : q = (zdn, 12)) (h3 : ((zaz c t x).win + 1) * c.width t + c.keep t <= m.now) (h4 : ∀ k : Nat, k < c.n -> c.F k = t -> (zct c m.now m.Gl m.L k x.ser (x.tm / c.width k)).2 = 0 \/ (zct c m.now m.Gl m.L k x.ser (x.tm / c.width k)).2 = 12)
theorem stG_gone {Gl : List (Sg × Unit)} {L : LV} {s : Sg} (h : s ∈ zas Gl) : (stG Gl L s).st = 4 := by
 unfold stG
 cases hg : zbq Gl s with
 | none => exact absurd h (zdb.1 hg)
 | some u => rfl
theorem stG_live {Gl : List (Sg × Unit)} {L : LV} {s : Sg} (h : s ∉ zas Gl) : stG Gl L s = stL L s := by
 unfold stG
 rw [zdb.2 h]
theorem RInv.told (hc : c.ok) (hf : c.fits) (hm : MOk c ep m) (h : RInv c m ns) {x : Nm} (hx : x ∈ ns) {t : Int} (h1 : -1 <= t) (h2 : t < c.n) : Told c m ns x t (zct c m.now m.Gl m.L t x.ser (x.tm / c.width t)) := by
 by_cases hcl : c.clo m.now (zaz c t x)
 ·have hcl' := hcl
  unfold Cf.clo at hcl
  have hq : zct c m.now m.Gl m.L t x.ser (x.tm / c.width t) = zdq (stG m.Gl m.L (zaz c t x)) := by
   unfold zct
   rw [if_neg (by simp only [zaz] at hcl; omega)]
   rfl
  by_cases hg : zaz c t x ∈ zas m.Gl
  ·have h4 := stG_gone (L := m.L) hg
   refine .gone hcl' (by rw [hq]; unfold zdq; rw [h4]; simp) (h.over _ hg) (fun k hk hF => ?_)
   have hup := h.gone x hx k hk (by rw [hF]; exact hg)
   have hcu : c.clo m.now (zaz c (k : Int) x) := by
    rcases hup with hu | ⟨v, hv, h3⟩
    ·exact hm.seg.goc _ hu
    ·exact hm.seg.pubc _ hv h3
   have hqu : zct c m.now m.Gl m.L k x.ser (x.tm / c.width k) = zdq (stG m.Gl m.L (zaz c k x)) := by
    unfold zct
    unfold Cf.clo at hcu
    rw [if_neg (by simp only [zaz] at hcu; omega)]
    rfl
   rw [hqu]
   rcases hup with hu | ⟨v, hv, h3⟩
   ·right; unfold zdq; rw [stG_gone hu]; simp
   ·left
    have hng : zaz c (k : Int) x ∉ zas m.Gl := hm.seg.disj _ hv
    have := zcc (key_of hv)
    rw [stG_live hng, mem_one hm.seg.nl this hv]
    unfold zdq; rw [h3]; simp
  ·have hk : zaz c t x ∈ zaq m.L := (h.keys x hx t h1 h2).resolve_right hg
   have hmem := zcc hk
   rw [stG_live hg] at hq
   by_cases ht : t = -1
   ·have h5 := (hm.seg.raw _ hmem (by rw [ht]; rfl)).1
    simp only at h5
    have hqv : zdq (stL m.L (zaz c t x)) = ((stL m.L (zaz c t x)).cl, 0) := by unfold zdq; rw [h5]; simp
    refine .ok hcl' (by rw [hq, hqv]) ?_
    rw [hq, hqv]
    exact h.cell _ hmem (by simp only; omega)
   ·rcases hm.seg.tier _ hmem (by show 0 <= t; omega) with h5 | h5
    ·simp only at h5
     exact .wait hcl' (by rw [hq]; unfold zdq; rw [h5]; simp) (by omega)
    ·simp only at h5
     have hqv : zdq (stL m.L (zaz c t x)) = ((stL m.L (zaz c t x)).cl, 0) := by unfold zdq; rw [h5]; simp
     refine .ok hcl' (by rw [hq, hqv]) ?_
     rw [hq, hqv]
     exact h.cell _ hmem (by simp only; omega)
 ·refine .opn hcl ?_
  unfold Cf.clo at hcl
  unfold zct
  rw [if_pos (by simp only [zaz] at hcl; omega)]
end
end Go.Proofs.YtpbimdkclnekeaaGreat
