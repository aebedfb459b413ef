import Derived.Test.YtpbimdkclnekeaaGreatKBrd3
import Derived.Test.YtpbimdkclnekeaaGreatKZet7
import Derived.Test.YtpbimdkclnekeaaGreatKJn1

namespace Go.Proofs.YtpbimdkclnekeaaGreat
open Go.RowKit Go.Maps Go.Shelf
set_option linter.unusedVariables false
def heldV1 (v : SV) : Int := if v.st = 1 then v.cl.cnt else 0
def heldL (L : LV) : Int := zdt (L.map (fun p => heldV1 p.2))
section
variable {c : Cf} {L : LV}
theorem addTo_mem (x : Nm) : ∀ (k : Nat) (L : LV) {p : Sg × SV}, p ∈ addTo c x k L -> p ∈ L \/ ∃ j : Nat, j < k /\ p = (zaz c (j : Int) x, ⟨2, zdn⟩) /\ zaz c (j : Int) x ∉ zaq L
 | 0, L, p, h => .inl h
 | k + 1, L, p, h => by
  have h' : p ∈ zdf c x k (addTo c x k L) := h
  unfold zdf at h'
  split at h'
  ·rcases addTo_mem x k L h' with a | ⟨j, a, b⟩
   ·exact .inl a
   ·exact .inr ⟨j, by omega, b⟩
  ·rename_i hn
   rcases zdp h' with rfl | ⟨h', _⟩
   ·refine .inr ⟨k, by omega, rfl, fun hm => hn ?_⟩
    clear h h' hn
    have keep : ∀ (k : Nat) (s : Sg), s ∈ zaq L -> s ∈ zaq (addTo c x k L) := fun k => by
     induction k with
     | zero => exact fun s h => h
     | succ k ih => intro s h; show s ∈ zaq (zdf c x k _); unfold zdf; split; exact ih s h; exact zcw.2 (.inl (ih s h))
    exact keep k _ hm
   ·rcases addTo_mem x k L h' with a | ⟨j, a, b⟩
    ·exact .inl a
    ·exact .inr ⟨j, by omega, b⟩
theorem addTo_old (x : Nm) : ∀ (k : Nat) (L : LV) {p : Sg × SV}, p ∈ L -> p ∈ addTo c x k L
 | 0, L, p, h => h
 | k + 1, L, p, h => by
  have ih := addTo_old x k L h
  show p ∈ zdf c x k (addTo c x k L)
  unfold zdf
  split
  ·exact ih
  ·rename_i hn
   unfold zeg; rw [if_neg hn]; exact List.mem_append_left _ ih
theorem addTo_nodup (x : Nm) : ∀ (k : Nat) (L : LV), (zaq L).Nodup -> (zaq (addTo c x k L)).Nodup
 | 0, L, h => h
 | k + 1, L, h => by
  show (zaq (zdf c x k (addTo c x k L))).Nodup
  unfold zdf
  split
  ·exact addTo_nodup x k L h
  ·exact nodup_putL (addTo_nodup x k L h)
theorem addTo_new (x : Nm) : ∀ (k : Nat) (L : LV) (j : Nat), j < k -> zaz c (j : Int) x ∈ zaq (addTo c x k L)
 | k + 1, L, j, h => by
  show _ ∈ zaq (zdf c x k (addTo c x k L))
  unfold zdf
  split
  ·rename_i hm
   by_cases e : j = k
   ·subst e; exact hm
   ·exact addTo_new x k L j (by omega)
  ·by_cases e : j = k
   ·subst e; exact zcw.2 (.inr rfl)
   ·exact zcw.2 (.inl (addTo_new x k L j (by omega)))
theorem seg_open {now : Int} (hc : c.ok) {x : Nm} {t : Int} (h1 : -1 <= t) (h2 : t < c.n) (hx : now - c.la <= x.tm) : ¬ c.clo now (zaz c t x) := by
 obtain ⟨hw, _⟩ := hc.width h1 h2
 have : x.tm < (x.tm / c.width t + 1) * c.width t := Int.lt_ediv_add_one_mul_self _ (by omega)
 unfold Cf.clo zaz
 dsimp only
 omega
theorem seg_inR (hc : c.ok) {x : Nm} (hs : 0 <= x.ser /\ x.ser < 4) (hx : 0 <= x.tm /\ x.tm <= 100000) {t : Int} (h1 : -1 <= t) (h2 : t < c.n) : inR c (zaz c t x) := by
 obtain ⟨hw, _⟩ := hc.width h1 h2
 have hn := hc.n4
 have hd : 0 <= x.tm / c.width t := Int.ediv_nonneg hx.1 (by omega)
 have hd2 : x.tm / c.width t <= x.tm := Int.ediv_le_self _ hx.1
 refine ⟨⟨?_, ?_, ?_⟩, h1, h2, hd, ?_⟩
 ·show zdg t; unfold zdg; omega
 ·show zdg x.ser; unfold zdg; omega
 ·show zdg (x.tm / c.width t); unfold zdg; omega
 ·show x.tm / c.width t <= 100000; omega
theorem seg_above (hc : c.ok) (hf : c.fits) {x : Nm} (hx : 0 <= x.tm) : (⟨0, x.ser, (zbz c x).win * c.wi / c.W 0⟩ : Sg) = zaz c (0 : Nat) x := by
 obtain ⟨q, hq, hW⟩ := hf.div0
 have hwi := hc.wi1
 have hw0 : c.width ((0 : Nat) : Int) = c.W 0 := by unfold Cf.width zbp; rw [if_neg (by omega)]; simp
 have hw1 : c.width (-1) = c.wi := by unfold Cf.width zbp; rw [if_pos rfl]
 unfold zbz zaz
 rw [hw0, hw1]
 dsimp only
 have : x.tm / c.wi * c.wi / c.W 0 = x.tm / c.W 0 := by
  rw [hW, Int.mul_comm c.wi q, Int.mul_ediv_mul_of_pos_left _ _ (by omega), Int.ediv_ediv_of_nonneg (by omega), Int.mul_comm c.wi q]
 rw [this]; rfl
end
section
variable {c : Cf} {ep : Int} {m : MS}
theorem MOk.rawAt (h : SegOk c m.now m.L m.Gl) (hc : c.ok) {x : Nm} {v : SV} (hv : getL m.L (zbz c x) = some v) : v.st = 1 /\ 1 <= v.cl.cnt /\ v.cl.cnt <= 400 /\ -(v.cl.cnt * 2147483648) <= v.cl.sum /\ v.cl.sum <= v.cl.cnt * 2147483648 := by
 have hm := getL_mem hv
 obtain ⟨a, b, d⟩ := h.raw _ hm rfl
 exact ⟨a, b, h.cnt hc _ hm rfl, d⟩
theorem sum_raw (h : SegOk c m.now m.L m.Gl) (hc : c.ok) (x : Nm) (f : SV -> Int) (hf1 : ∀ cl : Cl, f ⟨1, cl⟩ = cl.cnt) : zdt ((zcy c m.L x).map (fun p => f p.2)) = zdt (m.L.map (fun p => f p.2)) + 1 := by
 unfold zcy
 cases hg : getL m.L (zbz c x) with
 | none => rw [sum_put_new f (getL_none.1 hg), hf1]; simp [zdu]
 | some v =>
  obtain ⟨h1, _⟩ := MOk.rawAt h hc hg
  rw [sum_put_at h.nl (getL_mem hg) f, hf1]
  have : f v = v.cl.cnt := by
   have e : v = ⟨1, v.cl⟩ := by cases v; simp at h1; subst h1; rfl
   rw [e, hf1]
  rw [this]; simp [zdu]; omega
theorem sum_to (x : Nm) (f : SV -> Int) (hf2 : f ⟨2, zdn⟩ = 0) : ∀ (k : Nat) (L : LV), zdt ((addTo c x k L).map (fun p => f p.2)) = zdt (L.map (fun p => f p.2))
 | 0, L => rfl
 | k + 1, L => by
  show zdt ((zdf c x k (addTo c x k L)).map (fun p => f p.2)) = _
  unfold zdf
  split
  ·exact sum_to x f hf2 k L
  ·rename_i hn
   rw [sum_put_new f hn, sum_to x f hf2 k L, hf2]; omega
theorem used_addM (h : SegOk c m.now m.L m.Gl) (hc : c.ok) (x : Nm) : zam (addL c m.L x) = zam m.L + 1 + 2 * missL c m.L x c.n := by
 unfold addL; rw [used_to]
 have := sum_raw h hc x zep (fun cl => by simp [zep])
 unfold zam at *; omega
theorem held_addM (h : SegOk c m.now m.L m.Gl) (hc : c.ok) (x : Nm) : heldL (addL c m.L x) = heldL m.L + 1 := by
 unfold addL heldL
 rw [sum_to x heldV1 (by simp [heldV1]) c.n]
 exact sum_raw h hc x heldV1 (fun cl => by simp [heldV1])
theorem MOk.added (h : MOk c ep m) (hc : c.ok) (hf : c.fits) {x : Nm} (hs : 0 <= x.ser /\ x.ser < 4) (hx : 0 <= x.tm /\ x.tm <= m.now) (hl : m.now - c.la <= x.tm) (hv : -2147483648 <= x.val /\ x.val <= 2147483647) (hu : zam m.L + 1 + 2 * missL c m.L x c.n <= c.qu) :
  MOk c ep { m with L := addL c m.L x } := by
 have hsg := h.seg
 have hnow := h.now
 have hn1 := hc.n1
 have hopen := fun (t : Int) (h1 : -1 <= t) (h2 : t < c.n) => seg_open hc h1 h2 hl
 have hin := fun (t : Int) (h1 : -1 <= t) (h2 : t < c.n) => seg_inR hc hs ⟨hx.1, by omega⟩ h1 h2 (x := x)
 have hcases : ∀ p, p ∈ addL c m.L x -> (p ∈ m.L /\ p.1 ≠ zbz c x) \/ p = (zbz c x, ⟨1, zdu x.val ((getL m.L (zbz c x)).map (·.cl))⟩) \/ ∃ j : Nat, j < c.n /\ p = (zaz c (j : Int) x, ⟨2, zdn⟩) /\ zaz c (j : Int) x ∉ zaq m.L := fun p hp => by
  rcases addTo_mem x c.n _ hp with hp | ⟨j, h1, h2, h3⟩
  ·rcases zdp hp with rfl | hp
   ·exact .inr (.inl rfl)
   ·exact .inl hp
  ·exact .inr (.inr ⟨j, h1, h2, fun hm => h3 (zcw.2 (.inl hm))⟩)
 have hold : ∀ p, p ∈ m.L -> p.1 ≠ zbz c x -> p ∈ addL c m.L x := fun p hp hne => addTo_old x c.n _ (by
  unfold zcy zeg
  split
  ·exact List.mem_map.2 ⟨p, hp, by rw [if_neg hne]⟩
  ·exact List.mem_append_left _ hp)
 have hnd : (zaq (addL c m.L x)).Nodup := addTo_nodup x c.n _ (nodup_putL hsg.nl)
 have hraw : zbz c x ∈ zaq (addL c m.L x) := by
  have : (zbz c x, (⟨1, zdu x.val ((getL m.L (zbz c x)).map (·.cl))⟩ : SV)) ∈ addL c m.L x := addTo_old x c.n _ (by
   have hk : zbz c x ∈ zaq (zcy c m.L x) := zcw.2 (.inr rfl)
   have := zcc hk
   have e : stL (zcy c m.L x) (zbz c x) = ⟨1, zdu x.val ((getL m.L (zbz c x)).map (·.cl))⟩ := by unfold zcy; rw [stL_put hsg.nl, if_pos rfl]
   rw [e] at this; exact this)
  exact List.mem_map.2 ⟨_, this, rfl⟩
 have hkey : ∀ k, k ∈ zaq m.L -> k ∈ zaq (addL c m.L x) := fun k hk => by
  by_cases e : k = zbz c x
  ·rw [e]; exact hraw
  ·obtain ⟨p, hp, rfl⟩ := List.mem_map.1 (show k ∈ m.L.map (·.1) from hk)
   exact List.mem_map.2 ⟨p, hold p hp e, rfl⟩
 have hst : ∀ k, k ∈ zaq m.L -> k ≠ zbz c x -> stL (addL c m.L x) k = stL m.L k := fun k hk hne => stL_of hnd (hold _ (zcc hk) hne)
 have hrt : (zbz c x).t = -1 := rfl
 refine ⟨h.now, ⟨fun p hp => ?_, hnd, fun p hp ht => ?_, fun p hp ht => ?_, fun p hp => ?_, hsg.ng, fun p hp h3 => ?_, hsg.goc, fun p hp ht => ?_, ?_⟩, fun p hp => ?_, h.nt, h.leas, h.nq, h.jobs, h.num⟩
 ·rcases hcases p hp with ⟨hp, _⟩ | rfl | ⟨j, hj, rfl, _⟩
  ·exact hsg.inr p hp
  ·exact hin (-1) (by omega) (by omega)
  ·exact hin j (by omega) (by omega)
 ·rcases hcases p hp with ⟨hp, _⟩ | rfl | ⟨j, hj, rfl, _⟩
  ·exact hsg.raw p hp ht
  ·refine ⟨rfl, ?_⟩
   dsimp only
   cases hg : getL m.L (zbz c x) with
   | none => simp [zdu]; omega
   | some v => obtain ⟨_, b, _, d, e⟩ := MOk.rawAt hsg hc hg; simp only [Option.map_some, zdu]; omega
  ·have : ((j : Int)) = -1 := ht
   omega
 ·rcases hcases p hp with ⟨hp, _⟩ | rfl | ⟨j, hj, rfl, _⟩
  ·exact hsg.tier p hp ht
  ·have : 0 <= (zbz c x).t := ht
   omega
  ·exact .inl rfl
 ·rcases hcases p hp with ⟨hp, _⟩ | rfl | ⟨j, hj, rfl, _⟩
  ·exact hsg.disj p hp
  ·exact fun hk => hopen (-1) (by omega) (by omega) (hsg.goc _ hk)
  ·exact fun hk => hopen j (by omega) (by omega) (hsg.goc _ hk)
 ·rcases hcases p hp with ⟨hp, _⟩ | rfl | ⟨j, hj, rfl, _⟩
  ·exact hsg.pubc p hp h3
  ·simp at h3
  ·simp at h3
 ·rcases hcases p hp with ⟨hp, _⟩ | rfl | ⟨j, hj, rfl, _⟩
  ·rcases hsg.above p hp ht with ha | ha
   ·exact .inl (hkey _ ha)
   ·exact .inr ha
  ·left
   show (⟨0, x.ser, (zbz c x).win * c.wi / c.W 0⟩ : Sg) ∈ _
   rw [seg_above hc hf hx.1]
   exact addTo_new x c.n _ 0 (by omega)
  ·have : ((j : Int)) = -1 := ht
   omega
 ·show zam (addL c m.L x) <= c.qu
  rw [used_addM hsg hc]; exact hu
 ·have h1 := h.tasks p hp
  have hne : p.2.s ≠ zbz c x := fun e => by
   have := h1.clo
   rw [e] at this
   exact hopen (-1) (by omega) (by omega) this
  have hst2 := hst _ h1.mem hne
  exact ⟨h1.key, hkey _ h1.mem, h1.clo, fun e => by show (stL (addL c m.L x) p.2.s).st = 2; rw [hst2]; exact h1.roll e, fun e => by show (stL (addL c m.L x) p.2.s).st ≠ 2; rw [hst2]; exact h1.recl e, h1.since, h1.tries⟩
theorem MOk.not_gone (h : MOk c ep m) (hc : c.ok) {x : Nm} (hl : m.now - c.la <= x.tm) {t : Int} (h1 : -1 <= t) (h2 : t < c.n) : zbq m.Gl (zaz c t x) = none :=
 zdb.2 (fun hk => seg_open hc h1 h2 hl (h.seg.goc _ hk))
theorem MOk.small (h : MOk c ep m) (hc : c.ok) : ∀ p ∈ m.L, p.1.t = -1 -> 0 <= p.2.cl.cnt /\ p.2.cl.cnt <= 1000000000000 /\ -1000000000000000000 <= p.2.cl.sum /\ p.2.cl.sum <= 1000000000000000000 := fun p hp ht => by
 obtain ⟨_, a, b, d⟩ := h.seg.raw p hp ht
 have := h.seg.cnt hc p hp ht
 omega
end
section
variable {c : Cf} {now : Int} {L : LV} {Gl : List (Sg × Unit)}
theorem SegOk.sts (h : SegOk c now L Gl) : ∀ p ∈ L, p.2.st = 1 \/ p.2.st = 2 \/ p.2.st = 3 := fun p hp => by
 have hr := h.inr p hp
 by_cases ht : p.1.t = -1
 ·exact .inl (h.raw p hp ht).1
 ·exact .inr (h.tier p hp (by have := hr.2.1; omega))
theorem SegOk.held1 (h : SegOk c now L Gl) : ∀ p ∈ L, p.2.st = 1 -> 1 <= p.2.cl.cnt := fun p hp h1 => by
 have hr := h.inr p hp
 by_cases ht : p.1.t = -1
 ·exact (h.raw p hp ht).2.1
 ·have := h.tier p hp (by have := hr.2.1; omega); omega
end
def untM (QL : List (Tok × Lse)) (t : Tok) : Int := match zbq QL t with | some g => g.til | none => 0
def tokL (ep : Int) (k : Nat) : List Tok := (List.range k).map (fun j : Nat => (⟨ep, (j : Int) + 1⟩ : Tok))
def zdy (ep : Int) (QL : List (Tok × Lse)) (k : Nat) : List Int := (List.range k).map (fun j : Nat => untM QL ⟨ep, (j : Int) + 1⟩)
theorem zbb (ep : Int) (k : Nat) : (tokL ep k).length = k := by simp [tokL]
theorem zbk (ep : Int) (QL : List (Tok × Lse)) (k : Nat) : (zdy ep QL k).length = k := by simp [zdy]
theorem tokL_at (ep : Int) (k j : Nat) (h : j < k) : (tokL ep k)[j]? = some ⟨ep, (j : Int) + 1⟩ := by simp [tokL, h]
theorem untL_at (ep : Int) (QL : List (Tok × Lse)) (k j : Nat) (h : j < k) : (zdy ep QL k)[j]? = some (untM QL ⟨ep, (j : Int) + 1⟩) := by simp [zdy, h]
theorem tokL_succ (ep : Int) (k : Nat) : tokL ep (k + 1) = tokL ep k ++ [⟨ep, (k : Int) + 1⟩] := by simp [tokL, List.range_succ]
theorem untL_succ (ep : Int) (QL : List (Tok × Lse)) (k : Nat) : zdy ep QL (k + 1) = zdy ep QL k ++ [untM QL ⟨ep, (k : Int) + 1⟩] := by simp [zdy, List.range_succ]
theorem untL_congr {ep : Int} {Q Q' : List (Tok × Lse)} {k : Nat} (h : ∀ j : Nat, j < k -> untM Q ⟨ep, (j : Int) + 1⟩ = untM Q' ⟨ep, (j : Int) + 1⟩) : zdy ep Q k = zdy ep Q' k := by
 unfold zdy
 exact List.map_congr_left (fun j hj => h j (by simpa using hj))
def sgNo (s : Sg) : Nat := ((s.t + 1) * 400004 + s.ser * 100001 + s.win).toNat
def serOk (s : Sg) : Prop := 0 <= s.ser /\ s.ser < 4
theorem sgNo_lt {c : Cf} (hc : c.ok) {s : Sg} (h : inR c s) (hs : serOk s) : sgNo s < 2000020 := by
 obtain ⟨_, h1, h2, h3, h4⟩ := h
 obtain ⟨h5, h6⟩ := hs
 have := hc.n4
 unfold sgNo; omega
theorem sgNo_inj {c : Cf} {s s' : Sg} (h : inR c s) (hs : serOk s) (h' : inR c s') (hs' : serOk s') (e : sgNo s = sgNo s') : s = s' := by
 obtain ⟨_, h1, h2, h3, h4⟩ := h
 obtain ⟨h5, h6⟩ := hs
 obtain ⟨_, g1, g2, g3, g4⟩ := h'
 obtain ⟨g5, g6⟩ := hs'
 obtain ⟨t, r, v⟩ := s
 obtain ⟨t', r', v'⟩ := s'
 unfold sgNo at e
 dsimp only at *
 have e1 : t = t' := by omega
 have e2 : r = r' := by omega
 have e3 : v = v' := by omega
 rw [e1, e2, e3]
structure SOk (c : Cf) (ep : Int) (m : MS) (nn : Nat) : Prop where
 ok : MOk c ep m
 gin : ∀ k ∈ zas m.Gl, inR c k /\ serOk k
 lin : ∀ k ∈ zaq m.L, serOk k
 held : heldL m.L <= nn
section
variable {c : Cf} {ep : Int} {m : MS} {nn : Nat}
theorem SOk.gl (h : SOk c ep m nn) (hc : c.ok) : m.Gl.length <= 2000020 := by
 have h1 := nodup_le ((zas m.Gl).map sgNo) (List.range 2000020) ?_ ?_
 ·simpa [zas] using h1
 ·have hn := h.ok.seg.ng
  have hg := h.gin
  generalize zas m.Gl = l at *
  rw [List.nodup_iff_pairwise_ne, List.pairwise_map]
  refine (List.nodup_iff_pairwise_ne.1 hn).imp_of_mem ?_
  intro a b ha hb hne e
  exact hne (sgNo_inj (hg a ha).1 (hg a ha).2 (hg b hb).1 (hg b hb).2 e)
 ·intro x hx
  obtain ⟨s, hs, rfl⟩ := List.mem_map.1 hx
  exact List.mem_range.2 (sgNo_lt hc (h.gin s hs).1 (h.gin s hs).2)
theorem MOk.unt_pos (h : MOk c ep m) {t : Tok} {g : Lse} (hg : zbq m.QL t = some g) : untM m.QL t = g.til /\ 0 < g.til := by
 have h1 := (h.leas _ (zbj hg)).til
 have h2 := h.now
 refine ⟨by unfold untM; rw [hg], by dsimp only at h1; omega⟩
theorem MOk.unt_none {t : Tok} (hg : zbq m.QL t = none) : untM m.QL t = 0 := by unfold untM; rw [hg]
theorem unt_del {QL : List (Tok × Lse)} (hn : (zas QL).Nodup) (t k : Tok) : untM (zby QL t) k = if k = t then 0 else untM QL k := by
 unfold untM; rw [getM_del hn]
 by_cases e : k = t
 ·rw [if_pos e, if_pos e]
 ·rw [if_neg e, if_neg e]
theorem unt_put {QL : List (Tok × Lse)} (hn : (zas QL).Nodup) (t k : Tok) (g : Lse) : untM (zdz QL t g) k = if k = t then g.til else untM QL k := by
 unfold untM; rw [getM_put hn]
 by_cases e : k = t
 ·rw [if_pos e, if_pos e]
 ·rw [if_neg e, if_neg e]
theorem untL_del {QL : List (Tok × Lse)} (hn : (zas QL).Nodup) (k j : Nat) : zdy ep (zby QL ⟨ep, (j : Int) + 1⟩) k = (zdy ep QL k).set j 0 := by
 apply List.ext_getElem?
 intro i
 rw [List.getElem?_set]
 by_cases hi : i < k
 ·rw [untL_at _ _ _ _ hi, unt_del hn, untL_at _ _ _ _ hi, zbk]
  by_cases e : j = i
  ·subst e; simp [hi]
  ·rw [if_neg (by intro h; injection h with _ h; omega), if_neg e]
 ·have h1 : (zdy ep (zby QL ⟨ep, (j : Int) + 1⟩) k)[i]? = none := List.getElem?_eq_none (by rw [zbk]; omega)
  have h2 : (zdy ep QL k)[i]? = none := List.getElem?_eq_none (by rw [zbk]; omega)
  rw [h1, h2]
  split
  ·rename_i e; subst e; rw [if_neg (by rw [zbk]; exact hi)]
  ·rfl
theorem untL_none {QL : List (Tok × Lse)} (k j : Nat) (h : untM QL ⟨ep, (j : Int) + 1⟩ = 0) : (zdy ep QL k).set j 0 = zdy ep QL k := by
 apply List.ext_getElem?
 intro i
 rw [List.getElem?_set]
 by_cases hi : i < k
 ·rw [untL_at _ _ _ _ hi, zbk]
  by_cases e : j = i
  ·subst e; simp [hi, h]
  ·rw [if_neg e]
 ·have h2 : (zdy ep QL k)[i]? = none := List.getElem?_eq_none (by rw [zbk]; omega)
  rw [h2]
  split
  ·rename_i e; subst e; rw [if_neg (by rw [zbk]; exact hi)]
  ·rfl
theorem untL_put {QL : List (Tok × Lse)} (hn : (zas QL).Nodup) (k : Nat) (g : Lse) : zdy ep (zdz QL ⟨ep, (k : Int) + 1⟩ g) (k + 1) = zdy ep QL k ++ [g.til] := by
 rw [untL_succ, unt_put hn, if_pos rfl]
 congr 1
 exact untL_congr (fun j hj => by rw [unt_put hn, if_neg (by intro h; injection h with _ h; omega)])
def cutU (n : Int) (u : Int) : Int := if u <= n then 0 else u
theorem SOk.tick (hc : c.ok) (hf : c.fits) (h : SOk c ep m nn) {n : Int} (hn : 1 <= n) (hnow : m.now + n <= 100000) {TL1 TL' : List (Jk × Tsk)} {QL1 : List (Tok × Lse)} (he : Exps (m.now + n) m.TL m.QL TL1 QL1) (hq : ∀ p ∈ QL1, m.now + n < p.2.til)
  (hp : zey c { m with now := m.now + n, TL := TL1, QL := QL1 } TL') :
  SOk c ep { m with now := m.now + n, TL := TL', QL := QL1 } nn /\ ∀ k, zdy ep QL1 k = (zdy ep m.QL k).map (cutU (m.now + n)) := by
 have h1 := h.ok.exps (n' := m.now + n) ⟨by omega, hnow⟩ he hq
 obtain ⟨h2, _, _⟩ := MOk.post hc hf h1 hp
 refine ⟨⟨h2, h.gin, h.lin, h.held⟩, fun k => ?_⟩
 obtain ⟨_, _, i3, _, i5, i6, _, _⟩ := exps_ok (ep := ep) (c := c) (L := m.L) (num := m.num) (show m.now <= m.now + n by omega) h.ok.tasks h.ok.nt h.ok.leas h.ok.nq h.ok.jobs he
 have hu : ∀ t, untM QL1 t = cutU (m.now + n) (untM m.QL t) := fun t => by
  have hnow0 := h.ok.now
  unfold cutU
  cases hg : zbq m.QL t with
  | none =>
   have : zbq QL1 t = none := by
    cases hg1 : zbq QL1 t with
    | none => rfl
    | some g => exact absurd (zej h.ok.nq (i5 _ (zbj hg1))) (by rw [hg]; simp)
   rw [MOk.unt_none hg, show untM QL1 t = 0 from by unfold untM; rw [this]]; split <;> rfl
  | some g =>
   rw [(h.ok.unt_pos hg).1]
   by_cases hl : g.til <= m.now + n
   ·rw [if_pos hl]
    have : zbq QL1 t = none := by
     cases hg1 : zbq QL1 t with
     | none => rfl
     | some g1 =>
      have a1 := zej h.ok.nq (i5 _ (zbj hg1))
      rw [hg] at a1; injection a1 with a1
      have a2 := hq _ (zbj hg1)
      rw [<- a1] at a2
      dsimp only at a2; omega
    unfold untM; rw [this]
   ·rw [if_neg hl]
    have := zej i3 (i6 _ (zbj hg) (by dsimp only; omega))
    unfold untM; rw [this]
 unfold zdy
 rw [List.map_map]
 exact List.map_congr_left (fun j _ => hu _)
theorem SOk.take (hc : c.ok) (h : SOk c ep m nn) {p : Jk × Tsk} (hp : p ∈ m.TL) (hr : p.2.rest <= m.now) (hl : leasedB m.QL p.2.key = false) (slot : Int) :
  SOk c ep { m with num := m.num + 1, QL := zdz m.QL ⟨ep, m.num + 1⟩ ⟨p.2.kd, p.2.s, slot, m.now + c.le⟩ } nn := by
 have h1 := (h.ok.picked hc (k := p.1) (x := p.2) (zej h.ok.nt hp) hr hl slot).1
 exact ⟨h1, h.gin, h.lin, h.held⟩
theorem SOk.fail (h : SOk c ep m nn) {t : Tok} {g : Lse} {x : Tsk} (hg : zbq m.QL t = some g) (hx : zbq m.TL g.job = some x) :
  SOk c ep { m with TL := zdz m.TL g.job (x.failed m.now), QL := zby m.QL t } nn := ⟨h.ok.failed hg hx, h.gin, h.lin, h.held⟩
theorem SOk.job (h : SOk c ep m nn) (hc : c.ok) {t : Tok} {g : Lse} (hg : zbq m.QL t = some g) : ∃ x, zbq m.TL g.job = some x /\ g.job.wf /\ inR c x.s /\ (x.rl = true -> ∃ k : Nat, x.s.t = k) /\ 0 <= x.tries /\ x.tries <= 1000000 := by
 obtain ⟨x, hx, hr⟩ := (h.ok.leas _ (zbj hg)).job
 have hm := zbj hx
 have h1 := h.ok.tasks _ hm
 have hin := h.ok.mem_inR h1.mem
 refine ⟨x, hx, h.ok.wfk _ hm, hin, fun e => ?_, ?_⟩
 ·have h2 := h1.roll e
  have hs := zcc h1.mem
  refine ⟨x.s.t.toNat, ?_⟩
  have h3 : -1 <= x.s.t := hin.2.1
  have h4 : x.s.t ≠ -1 := fun e4 => by
   have := (h.ok.seg.raw _ hs e4).1
   dsimp only at this h2; omega
  omega
 ·have h2 := h1.tries
  have := h.ok.now
  dsimp only at h2; omega
theorem held1_nonneg (h : SegOk c m.now m.L m.Gl) {s : Sg} (hs : s ∈ zaq m.L) : 0 <= heldV1 (stL m.L s) := by
 have hm := zcc hs
 unfold heldV1
 split
 ·rename_i h1; have := h.held1 _ hm h1; dsimp only at this; omega
 ·exact Int.le_refl _
theorem SOk.roll (hc : c.ok) (hf : c.fits) (h : SOk c ep m nn) {t : Tok} {g : Lse} {s : Sg} {since tries rest : Int} (hg : zbq m.QL t = some g) (hx : zbq m.TL g.job = some ⟨true, s, since, tries, rest⟩) (cl : Cl) {TL' : List (Jk × Tsk)}
  (hp : zey c { m with L := zeg m.L s ⟨3, cl⟩, Gl := m.Gl, TL := zby m.TL g.job, QL := zby m.QL t } TL') :
  SOk c ep { m with L := zeg m.L s ⟨3, cl⟩, Gl := m.Gl, TL := TL', QL := zby m.QL t } nn /\ zad (zeg m.L s ⟨3, cl⟩) 2 = zad m.L 2 - 1 := by
 obtain ⟨h1, h2, h3, h4⟩ := h.ok.rolled hg hx rfl cl
 dsimp only at h1 h2 h3 h4
 have h5 := (MOk.post hc hf h1 hp).1
 refine ⟨⟨h5, h.gin, fun k hk => ?_, ?_⟩, ?_⟩
 ·rcases zcw.1 hk with hk | rfl
  ·exact h.lin k hk
  ·exact h.lin _ h4
 ·have := h2 heldV1
  have h6 := h.held
  have e1 : heldV1 (stL m.L s) = 0 := by unfold heldV1; rw [if_neg (by omega)]
  have e2 : heldV1 ⟨3, cl⟩ = 0 := by simp [heldV1]
  rw [e1, e2] at this
  unfold heldL at *
  show zdt ((zeg m.L s ⟨3, cl⟩).map (fun p => heldV1 p.2)) <= _
  omega
 ·have := h2 (isSt 2)
  have e1 : isSt 2 (stL m.L s) = 1 := by unfold isSt; rw [if_pos h3]
  have e2 : isSt 2 ⟨3, cl⟩ = 0 := by simp [isSt]
  rw [e1, e2] at this
  unfold zad
  omega
theorem SOk.reclaim (hc : c.ok) (hf : c.fits) (h : SOk c ep m nn) {t : Tok} {g : Lse} {s : Sg} {since tries rest : Int} (hg : zbq m.QL t = some g) (hx : zbq m.TL g.job = some ⟨false, s, since, tries, rest⟩) {TL' : List (Jk × Tsk)}
  (hp : zey c { m with L := zby m.L s, Gl := zdz m.Gl s (), TL := zby m.TL g.job, QL := zby m.QL t } TL') :
  SOk c ep { m with L := zby m.L s, Gl := zdz m.Gl s (), TL := TL', QL := zby m.QL t } nn /\ (zdz m.Gl s ()).length = m.Gl.length + 1 := by
 obtain ⟨h1, h2, h3, h4, h5⟩ := h.ok.reclaimed hg hx rfl
 dsimp only at h1 h2 h3 h4 h5
 have h6 := (MOk.post hc hf h1 hp).1
 refine ⟨⟨h6, fun k hk => ?_, fun k hk => ?_, ?_⟩, h5⟩
 ·rcases zcg.1 hk with hk | rfl
  ·exact h.gin k hk
  ·exact ⟨h.ok.mem_inR h4, h.lin _ h4⟩
 ·obtain ⟨p, hp, rfl⟩ := List.mem_map.1 (show k ∈ (zby m.L s).map (·.1) from hk)
  exact h.lin _ (List.mem_map.2 ⟨p, (zbw.1 hp).1, rfl⟩)
 ·have := h2 heldV1
  have h7 := h.held
  have h8 := held1_nonneg h.ok.seg h4
  unfold heldL at *
  show zdt ((zby m.L s).map (fun p => heldV1 p.2)) <= _
  omega
theorem addL_ser {x : Nm} (hx : 0 <= x.ser /\ x.ser < 4) {L : LV} (h : ∀ k ∈ zaq L, serOk k) : ∀ k ∈ zaq (addL c L x), serOk k := fun k hk => by
 obtain ⟨p, hp, rfl⟩ := List.mem_map.1 (show k ∈ (addL c L x).map (·.1) from hk)
 rcases addTo_mem x c.n _ hp with hp | ⟨j, h1, rfl, h3⟩
 ·rcases zdp hp with rfl | ⟨hp, _⟩
  ·exact hx
  ·exact h _ (List.mem_map.2 ⟨p, hp, rfl⟩)
 ·exact hx
theorem SOk.ingest (hc : c.ok) (hf : c.fits) (h : SOk c ep m nn) {x : Nm} (hs : 0 <= x.ser /\ x.ser < 4) (hx : 0 <= x.tm /\ x.tm <= m.now) (hl : m.now - c.la <= x.tm) (hv : -2147483648 <= x.val /\ x.val <= 2147483647) (hu : zam m.L + (1 + 2 * missL c m.L x c.n) <= c.qu) :
  SOk c ep { m with L := addL c m.L x } (nn + 1) /\ zam (addL c m.L x) = zam m.L + 1 + 2 * missL c m.L x c.n := by
 refine ⟨⟨h.ok.added hc hf hs hx hl hv (by omega), h.gin, addL_ser hs h.lin, ?_⟩, used_addM h.ok.seg hc x⟩
 have h1 := held_addM h.ok.seg hc x
 have h2 := h.held
 show heldL (addL c m.L x) <= ((nn + 1 : Nat) : Int)
 omega
theorem SOk.new (hc : c.ok) : SOk c ep ⟨0, [], [], 0, [], []⟩ 0 := by
 have hq := hc.qu
 refine ⟨⟨by dsimp only; omega, ⟨by simp, by simp [zaq], by simp, by simp, by simp, by simp [zas], by simp, by simp [zas], by simp, ?_⟩, by simp, by simp [zas], by simp, by simp [zas], by simp, by dsimp only; omega⟩, by simp [zas], by simp [zaq], ?_⟩
 ·show zam [] <= c.qu
  simp [zam, zdt]; omega
 ·simp [heldL, zdt]
end
theorem hangs_iff {c : Cf} (hc : c.ok) {L : LV} {k : Sg} (hk : inR c k) : hangsB c L k = true ↔ ∀ x ∈ hangL c k, (stL L x).st ≠ 2 := by
 have hm := hangW_mem hc hk
 unfold hangsB
 constructor
 ·intro h x hx e
  have h5 : ((hangW c k).filter (fun x => (stL L x.1).st == 2)).length = 0 := by
   have := of_decide_eq_true (show decide ((((hangW c k).filter (fun x => (stL L x.1).st == 2)).length : Int) = 0) = true from by simpa using h)
   omega
  obtain ⟨y, hy, ey⟩ := List.mem_map.1 ((hm x).2 hx)
  have : y ∈ (hangW c k).filter (fun x => (stL L x.1).st == 2) := List.mem_filter.2 ⟨hy, by rw [ey]; simpa using e⟩
  rw [List.eq_nil_of_length_eq_zero h5] at this; simp at this
 ·intro h
  have : (hangW c k).filter (fun x => (stL L x.1).st == 2) = [] := List.filter_eq_nil_iff.2 (fun y hy e => h y.1 ((hm y.1).1 (List.mem_map.2 ⟨y, hy, rfl⟩)) (by simpa using e))
  rw [this]; rfl
theorem exps_nil {n : Int} {T : List (Jk × Tsk)} {Q : List (Tok × Lse)} (h : Exps n [] [] T Q) : T = [] /\ Q = [] := by
 induction h with
 | nil => exact ⟨rfl, rfl⟩
 | step _ hg _ _ ih => rw [ih.2] at hg; simp [zbq] at hg
theorem foldl_one {α β : Type} (f : β -> α -> β) (a : α) (b b' : β) (h1 : f b a = b') (h2 : f b' a = b') : ∀ (l : List α), (∀ x ∈ l, x = a) -> a ∈ l -> l.foldl f b = b'
 | [], _, h => by cases h
 | x :: l, hx, _ => by
  have e := hx x (by simp)
  subst e
  show l.foldl f (f b x) = b'
  rw [h1]
  have : ∀ (l : List α), (∀ y ∈ l, y = x) -> l.foldl f b' = b' := fun l => by
   induction l with
   | nil => intro _; rfl
   | cons y l ih => intro hy; have e := hy y (by simp); subst e; show l.foldl f (f b' y) = b'; rw [h2]; exact ih (fun z hz => hy z (by simp [hz]))
  exact this l (fun y hy => hx y (by simp [hy]))
theorem nil_of {α : Type} {l : List α} (h : ∀ x, x ∉ l) : l = [] := by
 cases l with
 | nil => rfl
 | cons a l => exact absurd (by simp) (h a)
def awC : Cf := ⟨1, 9, 0, 2, 4, 9, 1, fun _ => -1, fun _ => 2, fun _ => 100⟩
theorem awC_right : zdh awC.s awC.le awC.la awC.wi awC.ke awC.qu awC.n awC.F awC.W awC.K = true := by decide
theorem awC_ok : awC.ok := right_ok awC_right
def awR : Sg := ⟨-1, 1, 0⟩
def awT : Sg := ⟨0, 1, 0⟩
def awCl : Cl := ⟨1, 7, 7, 7⟩
def awL1 : LV := [(awR, ⟨1, awCl⟩), (awT, ⟨2, zdn⟩)]
def awL2 : LV := [(awR, ⟨1, awCl⟩), (awT, ⟨3, awCl⟩)]
def awL3 : LV := [(awT, ⟨3, awCl⟩)]
theorem aw_roll : zeg awL1 awT ⟨3, zcd (zcf awC awL1 1 0 0)⟩ = awL2 := by kernel_rfl
theorem aw_inR : inR awC awR := by unfold inR Sg.wf zdg awR awC; dsimp only; omega
theorem aw_inT : inR awC awT := by unfold inR Sg.wf zdg awT awC; dsimp only; omega
theorem aw_hR : hangL awC awR = [awT] := by rfl
theorem aw_hT : hangL awC awT = [] := by rfl
def awT1 : List (Jk × Tsk) := [(⟨1, awT⟩, ⟨true, awT, 6, 0, 0⟩)]
def awT2 : List (Jk × Tsk) := [(⟨2, awR⟩, ⟨false, awR, 6, 0, 0⟩)]
def awM1 : MS := ⟨0, awL1, [], 0, [], []⟩
def awM2 : MS := ⟨6, awL1, [], 0, awT1, []⟩
def awQ1 : List (Tok × Lse) := [(⟨1, 1⟩, ⟨1, awT, 0, 15⟩)]
def awM3 : MS := ⟨6, awL1, [], 1, awT1, awQ1⟩
def awM4 : MS := ⟨6, awL2, [], 1, awT2, []⟩
def awQ2 : List (Tok × Lse) := [(⟨1, 2⟩, ⟨2, awR, 0, 15⟩)]
def awM5 : MS := ⟨6, awL2, [], 2, awT2, awQ2⟩
theorem aw_post1 {TL' : List (Jk × Tsk)} (h : zey awC ⟨6, awL1, [], 0, [], []⟩ TL') : TL' = awT1 := by
 obtain ⟨Bs, ys1, ys2, hB, h1, h2, rfl⟩ := h.to
 dsimp only at *
 have hb : zas Bs = [] := nil_of (fun x hx => by
  obtain ⟨k, hk, hs, hx⟩ := (hB x).1 hx
  simp [awL1, zaq] at hk
  rcases hk with rfl | rfl
  ·exact absurd hs (by decide)
  ·rw [aw_hT] at hx; cases hx)
 have hg : ∀ k, zbq Bs k = none := fun k => zdb.2 (by rw [hb]; simp)
 have e1 : ∀ s ∈ ys1, s = awT := fun s hs => by
  obtain ⟨hk, hr⟩ := (h1 s).1 hs
  simp [awL1, zaq] at hk
  rcases hk with rfl | rfl
  ·unfold rollB at hr; rw [hg] at hr; exact absurd hr (by decide)
  ·rfl
 have e2 : awT ∈ ys1 := (h1 awT).2 ⟨by simp [awL1, zaq], by unfold rollB; rw [hg]; decide⟩
 have e3 : ys2 = [] := nil_of (fun s hs => by
  obtain ⟨hk, hr⟩ := (h2 s).1 hs
  simp [awL1, zaq] at hk
  unfold reclB at hr
  simp only [Bool.and_eq_true] at hr
  rcases hk with rfl | rfl
  ·exact (hangs_iff awC_ok aw_inR).1 hr.2 awT (by rw [aw_hR]; simp) (by decide)
  ·exact absurd hr.1.1 (by decide))
 rw [e3]
 exact foldl_one (postR 6) awT [] awT1 (by rfl) (by rfl) ys1 e1 e2
theorem aw_post2 {num : Int} {TL' : List (Jk × Tsk)} (h : zey awC ⟨6, awL2, [], num, [], []⟩ TL') : TL' = awT2 := by
 obtain ⟨Bs, ys1, ys2, hB, h1, h2, rfl⟩ := h.to
 dsimp only at *
 have e1 : ys1 = [] := nil_of (fun s hs => by
  obtain ⟨hk, hr⟩ := (h1 s).1 hs
  simp [awL2, zaq] at hk
  unfold rollB at hr
  simp only [Bool.and_eq_true] at hr
  rcases hk with rfl | rfl
  ·exact absurd hr.1.2 (by decide)
  ·exact absurd hr.1.2 (by decide))
 have e2 : ∀ s ∈ ys2, s = awR := fun s hs => by
  obtain ⟨hk, hr⟩ := (h2 s).1 hs
  simp [awL2, zaq] at hk
  unfold reclB at hr
  simp only [Bool.and_eq_true] at hr
  rcases hk with rfl | rfl
  ·rfl
  ·exact absurd hr.1.2 (by decide)
 have e3 : awR ∈ ys2 := (h2 awR).2 ⟨by simp [awL2, zaq], by
  unfold reclB
  simp only [Bool.and_eq_true]
  refine ⟨⟨by decide, by decide⟩, (hangs_iff awC_ok aw_inR).2 (fun x hx => ?_)⟩
  rw [aw_hR] at hx
  simp at hx
  subst hx
  decide⟩
 rw [e1]
 exact foldl_one (postC 6) awR [] awT2 (by rfl) (by rfl) ys2 e2 e3
end Go.Proofs.YtpbimdkclnekeaaGreat

namespace Go.Proofs.YtpbimdkclnekeaaGreat
open Value (int)
open IntKind (i64)
open Go.RowKit Go.Maps Go.Shelf
open Go.ChangeMaps (setBlock)
set_option linter.unusedVariables false
theorem bnew_at (w : World) (o : Obj) (c : Cf) (tv : Value) (ep : Int) :
  zav ((((w.alloc o).alloc (.map #[] 0)).alloc (.map #[] 0)).alloc (.cells #[int i64 c.s, int i64 c.le, int i64 c.la, int i64 c.wi, int i64 c.ke, int i64 c.qu, tv, int i64 ep, int i64 0, .map (some (w.heap.size + 1)), .map (some (w.heap.size + 1 + 1))] 156)) (w.heap.size + 1 + 1 + 1) c tv ep 0 (w.heap.size + 1) (w.heap.size + 1 + 1) [] [] := by
 have z1 := zbm w o
 have z2 := zbm (w.alloc o) (.map #[] 0)
 have z3 := zbm ((w.alloc o).alloc (.map #[] 0)) (.map #[] 0)
 refine ⟨?_, ?_, ?_, by omega⟩
 ·have h := zag (((w.alloc o).alloc (.map #[] 0)).alloc (.map #[] 0)) (.cells #[int i64 c.s, int i64 c.le, int i64 c.la, int i64 c.wi, int i64 c.ke, int i64 c.qu, tv, int i64 ep, int i64 0, .map (some (w.heap.size + 1)), .map (some (w.heap.size + 1 + 1))] 156)
  rw [z3, z2, z1] at h
  exact h
 ·have h := zbs.made (M := zcr) (w.alloc o)
  rw [z1] at h
  exact (h.later ((Below.refl _ _).alloc (Nat.le_refl _) _)).later ((Below.refl _ _).alloc (Nat.le_refl _) _)
 ·have h := zbs.made (M := zch) ((w.alloc o).alloc (.map #[] 0))
  rw [z2, z1] at h
  exact h.later ((Below.refl _ _).alloc (Nat.le_refl _) _)
set_option maxRecDepth 8000 in
set_option maxHeartbeats 2000000 in
theorem bnew_any (c : Cf) (a : Option Addr) (cap : Nat) (ep : Int) (w : World) :
  Calls Tryz.prog 65 #[.agg #[int i64 c.s, int i64 c.le, int i64 c.la, int i64 c.wi, int i64 c.ke, int i64 c.qu, .slice a c.n cap], int i64 ep] w fun e w' => ∃ b tb qb, e = .returned (.pointer (some ⟨b, 0, none⟩)) /\ w.heap.size <= b /\ w.heap.size <= tb /\ w.heap.size <= qb /\ zav w' b c (.slice a c.n cap) ep 0 tb qb [] [] /\ Below w.heap.size w w' := by
 have m1 : ∀ W : World, (Instr.makeMap 154 none).run Tryz.prog W = .ok (.map (some W.heap.size)) (W.alloc (.map #[] 0)) := fun W => by kernel_rfl
 have m2 : ∀ W : World, (Instr.makeMap 153 none).run Tryz.prog W = .ok (.map (some W.heap.size)) (W.alloc (.map #[] 0)) := fun W => by kernel_rfl
 go_enter Tryz.func65, Tryz.ntmps65
 go_wp2_with fail
 go_ret
 refine ⟨w.heap.size + 1 + 1 + 1, w.heap.size + 1, w.heap.size + 1 + 1, rfl, by omega, by omega, by omega, bnew_at w _ c _ ep, ?_⟩
 have h1 : Below w.heap.size w (w.alloc (.cells #[int i64 c.s, int i64 c.le, int i64 c.la, int i64 c.wi, int i64 c.ke, int i64 c.qu, .slice a c.n cap] 80)) := (Below.refl _ _).alloc (Nat.le_refl _) _
 have h2 := h1.alloc h1.size (.map #[] 0)
 have h3 := h2.alloc h2.size (.map #[] 0)
 exact h3.alloc h3.size _
end Go.Proofs.YtpbimdkclnekeaaGreat

namespace Go.Proofs.YtpbimdkclnekeaaGreat
open Value (int)
open IntKind (i64)
open Go.RowKit Go.Maps Go.Shelf
set_option linter.unusedVariables false
attribute [local go_sem] Oper.semAt_some
def stepT {α : Type} (ord : α -> α -> Int) (o : Option α) (x : α) : Option α := match o with
 | none => some x
 | some f => if ord x f < 0 then some x else some f
def foldT {α : Type} (ord : α -> α -> Int) (l : List α) : Option α := l.foldl (stepT ord) none
theorem foldT_snoc {α : Type} (ord : α -> α -> Int) (l : List α) (x : α) : foldT ord (l ++ [x]) = stepT ord (foldT ord l) x := by simp [foldT]
theorem foldT_from {α : Type} (ord : α -> α -> Int) : ∀ (l : List α) (f : α), ∃ g, l.foldl (stepT ord) (some f) = some g /\ (g = f \/ g ∈ l)
 | [], f => ⟨f, rfl, .inl rfl⟩
 | x :: l, f => by
  simp only [List.foldl_cons]
  by_cases h : ord x f < 0
  ·obtain ⟨g, h1, h2⟩ := foldT_from ord l x
   refine ⟨g, by simp only [stepT, if_pos h]; exact h1, .inr ?_⟩
   rcases h2 with rfl | h2 <;> simp [*]
  ·obtain ⟨g, h1, h2⟩ := foldT_from ord l f
   refine ⟨g, by simp only [stepT, if_neg h]; exact h1, ?_⟩
   rcases h2 with rfl | h2
   ·exact .inl rfl
   ·exact .inr (by simp [h2])
theorem foldT_mem {α : Type} (ord : α -> α -> Int) : ∀ l : List α, (l = [] /\ foldT ord l = none) \/ ∃ g ∈ l, foldT ord l = some g
 | [] => .inl ⟨rfl, rfl⟩
 | x :: l => .inr (by
  obtain ⟨g, h1, h2⟩ := foldT_from ord l x
  refine ⟨g, ?_, h1⟩
  rcases h2 with rfl | h2 <;> simp [*])
def tskObj (o : Option Tsk) : Obj := match o with
 | none => .cells #[.nilIface, int i64 0, int i64 0, int i64 0] 162 (0, 0)
 | some x => .cells #[.iface x.jt (.agg #[int i64 x.s.t, int i64 x.s.ser, int i64 x.s.win]), int i64 x.since, int i64 x.tries, int i64 x.rest] 162 (0, 0)
structure FT (ov : Value) (w : World) (o : Option Tsk) (W : World) : Prop where
 i1 : W.heap[w.heap.size]? = some (.cells #[ov] 167 (0, 0))
 i2 : W.heap[w.heap.size + 1]? = some (tskObj none)
 i3 : W.heap[w.heap.size + 2]? = some (tskObj o)
 i4 : W.heap[w.heap.size + 3]? = some (.cells #[.bool o.isSome] 4 (0, 0))
 i5 : Below w.heap.size w W
theorem FT.own {ov : Value} {w A B : World} {o : Option Tsk} {row : Option Nat} {N : Nat} (hN : w.heap.size <= N) (hs : FT ov w o A) (hg : A.grownBy B row) (hr : ∀ r, row = some r -> N <= r /\ ∃ o : Obj, A.heap[r]? = some o /\ o.isCells = false) : FT ov w o B := by
 refine ⟨zap hs.i1 hg (fun r e => (hr r e).2), zap (by exact hs.i2) hg (fun r e => (hr r e).2), ?_, zap hs.i4 hg (fun r e => (hr r e).2), hs.i5.grown hg hs.i5.size (fun k e => by have := (hr k e).1; omega)⟩
 have h3 := hs.i3
 cases o with
 | none => exact zap h3 hg (fun r e => (hr r e).2)
 | some x => exact zap h3 hg (fun r e => (hr r e).2)
theorem FT.later {ov : Value} {w A B : World} {o : Option Tsk} (h : FT ov w o A) (hb : Below A.heap.size A B) : FT ov w o B :=
 ⟨(hb.block _ (zaa h.i1)).trans h.i1, (hb.block _ (zaa h.i2)).trans h.i2, (hb.block _ (zaa h.i3)).trans h.i3, (hb.block _ (zaa h.i4)).trans h.i4, h.i5.trans (hb.mono h.i5.size)⟩
theorem ft_stay {ov : Value} {ex : Nat -> Prop} {n m : Nat} {w W X : World} {o o' : Option Tsk} {N : Nat} (h : FT ov w o W) (ho : o' = o) (hb : Below W.heap.size W X) : KeepsFrom N W X /\ KX ex n m W X /\ FT ov w o' X := by
 subst ho
 exact ⟨zaf hb, KX.of_below hb, h.later hb⟩
theorem ft_set {ov : Value} {ex : Nat -> Prop} {n m : Nat} {w W X : World} {o o' : Option Tsk} {x : Tsk} {N : Nat} (hn : n <= w.heap.size) (hm : w.heap.size + 4 <= m) (h : FT ov w o W) (ho : o' = some x) (hb : Below W.heap.size W X) :
  KeepsFrom N W (((((X.setCell ⟨w.heap.size + 2, 0, none⟩ (.iface x.jt (.agg #[int i64 x.s.t, int i64 x.s.ser, int i64 x.s.win]))).setCell ⟨w.heap.size + 2, 1, none⟩ (int i64 x.since)).setCell ⟨w.heap.size + 2, 2, none⟩ (int i64 x.tries)).setCell ⟨w.heap.size + 2, 3, none⟩ (int i64 x.rest)).setCell ⟨w.heap.size + 3, 0, none⟩ (.bool true)) /\ KX ex n m W (((((X.setCell ⟨w.heap.size + 2, 0, none⟩ (.iface x.jt (.agg #[int i64 x.s.t, int i64 x.s.ser, int i64 x.s.win]))).setCell ⟨w.heap.size + 2, 1, none⟩ (int i64 x.since)).setCell ⟨w.heap.size + 2, 2, none⟩ (int i64 x.tries)).setCell ⟨w.heap.size + 2, 3, none⟩ (int i64 x.rest)).setCell ⟨w.heap.size + 3, 0, none⟩ (.bool true)) /\ FT ov w o' (((((X.setCell ⟨w.heap.size + 2, 0, none⟩ (.iface x.jt (.agg #[int i64 x.s.t, int i64 x.s.ser, int i64 x.s.win]))).setCell ⟨w.heap.size + 2, 1, none⟩ (int i64 x.since)).setCell ⟨w.heap.size + 2, 2, none⟩ (int i64 x.tries)).setCell ⟨w.heap.size + 2, 3, none⟩ (int i64 x.rest)).setCell ⟨w.heap.size + 3, 0, none⟩ (.bool true)) := by
 subst ho
 have hX := h.later hb
 have hx3 : ∃ p q r s, X.heap[w.heap.size + 2]? = some (.cells #[p, q, r, s] 162 (0, 0)) := by
  have := hX.i3
  cases o with
  | none => exact ⟨_, _, _, _, this⟩
  | some y => exact ⟨_, _, _, _, this⟩
 obtain ⟨p, q, r, s, hx3⟩ := hx3
 have h3 := set4c hx3 (.iface x.jt (.agg #[int i64 x.s.t, int i64 x.s.ser, int i64 x.s.win])) (int i64 x.since) (int i64 x.tries) (int i64 x.rest)
 have far : ∀ k, k ≠ w.heap.size + 2 -> ((((X.setCell ⟨w.heap.size + 2, 0, none⟩ (.iface x.jt (.agg #[int i64 x.s.t, int i64 x.s.ser, int i64 x.s.win]))).setCell ⟨w.heap.size + 2, 1, none⟩ (int i64 x.since)).setCell ⟨w.heap.size + 2, 2, none⟩ (int i64 x.tries)).setCell ⟨w.heap.size + 2, 3, none⟩ (int i64 x.rest)).heap[k]? = X.heap[k]? := fun k hk => by
  rw [zay hk, zay hk, zay hk, zay hk]
 have h4 := zcu (i := 0) ((far (w.heap.size + 3) (by omega)).trans hX.i4) (.bool true)
 have k1 : KeepsOthers W (((((X.setCell ⟨w.heap.size + 2, 0, none⟩ (.iface x.jt (.agg #[int i64 x.s.t, int i64 x.s.ser, int i64 x.s.win]))).setCell ⟨w.heap.size + 2, 1, none⟩ (int i64 x.since)).setCell ⟨w.heap.size + 2, 2, none⟩ (int i64 x.tries)).setCell ⟨w.heap.size + 2, 3, none⟩ (int i64 x.rest)).setCell ⟨w.heap.size + 3, 0, none⟩ (.bool true)) := (((((zea hb).trans (KeepsOthers.setCell _ _ _)).trans (KeepsOthers.setCell _ _ _)).trans (KeepsOthers.setCell _ _ _)).trans (KeepsOthers.setCell _ _ _)).trans (KeepsOthers.setCell _ _ _)
 have k2 : Below w.heap.size W (((((X.setCell ⟨w.heap.size + 2, 0, none⟩ (.iface x.jt (.agg #[int i64 x.s.t, int i64 x.s.ser, int i64 x.s.win]))).setCell ⟨w.heap.size + 2, 1, none⟩ (int i64 x.since)).setCell ⟨w.heap.size + 2, 2, none⟩ (int i64 x.tries)).setCell ⟨w.heap.size + 2, 3, none⟩ (int i64 x.rest)).setCell ⟨w.heap.size + 3, 0, none⟩ (.bool true)) := (((((hb.mono h.i5.size).setCell (p := ⟨w.heap.size + 2, 0, none⟩) (show w.heap.size <= w.heap.size + 2 by omega) _).setCell (p := ⟨w.heap.size + 2, 1, none⟩) (show w.heap.size <= w.heap.size + 2 by omega) _).setCell (p := ⟨w.heap.size + 2, 2, none⟩) (show w.heap.size <= w.heap.size + 2 by omega) _).setCell (p := ⟨w.heap.size + 2, 3, none⟩) (show w.heap.size <= w.heap.size + 2 by omega) _).setCell (p := ⟨w.heap.size + 3, 0, none⟩) (show w.heap.size <= w.heap.size + 3 by omega) _
 have kx : KX ex n m W (((((X.setCell ⟨w.heap.size + 2, 0, none⟩ (.iface x.jt (.agg #[int i64 x.s.t, int i64 x.s.ser, int i64 x.s.win]))).setCell ⟨w.heap.size + 2, 1, none⟩ (int i64 x.since)).setCell ⟨w.heap.size + 2, 2, none⟩ (int i64 x.tries)).setCell ⟨w.heap.size + 2, 3, none⟩ (int i64 x.rest)).setCell ⟨w.heap.size + 3, 0, none⟩ (.bool true)) := by
  refine (KX.of_below hb).trans ?_
  refine ⟨?_, fun k o' hx hk ho => ?_, fun k o' hmk hk => ?_⟩
  ·refine zaj.mono (f := fun k => k = w.heap.size + 2 \/ k = w.heap.size + 3) ?_ (fun k _ e => .inr (by omega))
   exact zae (zae (zae (zae (zae (zaj.refl _ _) (.inl rfl)) (.inl rfl)) (.inl rfl)) (.inl rfl)) (.inr rfl)
  ·have n2 : k ≠ w.heap.size + 2 := fun e => by rw [e, hx3] at hk; cases hk; cases ho
   have n3 : k ≠ w.heap.size + 3 := fun e => by rw [e, hX.i4] at hk; cases hk; cases ho
   rw [zay n3, far k n2]; exact hk
  ·rw [zay (by omega), far k (by omega)]; exact hk
 refine ⟨k1.from _, kx, ⟨?_, ?_, ?_, h4, h.i5.trans k2⟩⟩
 ·rw [zay (by omega), far _ (by omega)]; exact hX.i1
 ·rw [zay (by omega), far _ (by omega)]; exact hX.i2
 ·rw [zay (by omega)]; exact h3
set_option maxRecDepth 100000 in
set_option maxHeartbeats 4000000 in
theorem firstT_any {α : Type} (tk : α -> Tsk) (gf : Nat) (lb : Array Value) (eg : ∀ args w, (callFunc gf args).run Tryz.prog w = .ok (.enter gf args) w) (of : Nat) (oc : Array Value) (eo : ∀ args w, (callFunc of args).run Tryz.prog w = .ok (.enter of args) w) {ex : Nat -> Prop} {n N : Nat} {S : List α -> Prop} (ord : α -> α -> Int) (w : World) (hn : n <= w.heap.size)
  (hof : ∀ (x y : α) (W : World), Below w.heap.size w W -> Calls Tryz.prog of (#[.agg #[.iface (tk x).jt (.agg #[int i64 (tk x).s.t, int i64 (tk x).s.ser, int i64 (tk x).s.win]), int i64 (tk x).since, int i64 (tk x).tries, int i64 (tk x).rest], .agg #[.iface (tk y).jt (.agg #[int i64 (tk y).s.t, int i64 (tk y).s.ser, int i64 (tk y).s.win]), int i64 (tk y).since, int i64 (tk y).tries, int i64 (tk y).rest]] ++ oc) W fun e W' => e = .returned (int i64 (ord x y)) /\ Below W.heap.size W W')
  (hseq : SeqF ex n Tryz.prog gf lb (fun x : α => #[.agg #[.iface (tk x).jt (.agg #[int i64 (tk x).s.t, int i64 (tk x).s.ser, int i64 (tk x).s.win]), int i64 (tk x).since, int i64 (tk x).tries, int i64 (tk x).rest]]) S N w) :
  Calls Tryz.prog 85 #[.func (.func gf) #[] lb, .func (.func of) #[] oc] w fun e w' => ∃ xs, S xs /\ e = .returned (.tuple #[lookT ((foldT ord xs).map tk), .bool (foldT ord xs).isSome]) /\ Below w.heap.size w w' := by
 have HSEQ := zac hseq
 have HOF := zac hof
 have HEG := zac eg
 have HEO := zac eo
 obtain ⟨b1, b2, b3, hbw3, bz3⟩ := box3p w (.cells #[(.func (.func of) #[] oc)] 167) (tskObj none) (tskObj none)
 have HFI : Hid (FT (.func (.func of) #[] oc) w none ((((w.alloc (.cells #[(.func (.func of) #[] oc)] 167)).alloc (tskObj none)).alloc (tskObj none)).alloc (.cells #[.bool false] 4))) :=
  ⟨(Below.heap_alloc _ _ _ (by rw [bz3]; omega)).trans b1, (Below.heap_alloc _ _ _ (by rw [bz3]; omega)).trans b2, (Below.heap_alloc _ _ _ (by rw [bz3]; omega)).trans b3, by have := zag (((w.alloc (.cells #[(.func (.func of) #[] oc)] 167)).alloc (tskObj none)).alloc (tskObj none)) (.cells #[.bool false] 4); rw [bz3] at this; exact this, hbw3.alloc (by rw [bz3]; omega) _⟩
 have BZ : Hid (((((w.alloc (.cells #[(.func (.func of) #[] oc)] 167)).alloc (tskObj none)).alloc (tskObj none)).alloc (.cells #[.bool false] 4)).heap.size = w.heap.size + 4) := by show _ = _; rw [zbm, bz3]
 clear hseq hof eg eo b1 b2 b3 hbw3 bz3
 unfold tskObj at HFI BZ
 dsimp only at HFI BZ
 refine (callsIn_wide (n := 7)).1 ?_
 refine callsIn_of_wp_marks Tryz.func85 rfl trivial ?_ rfl
 simp only [Tryz.ntmps85, List.size_toArray, List.length_cons, List.length_nil, Nat.reduceAdd, Nat.reduceSub, Array.replicate_succ, Array.replicate_zero, List.push_toArray, List.append_toArray, List.nil_append, List.cons_append]
 gi_wp2
 obtain ⟨W0, hW0⟩ : ∃ W0, ((((w.alloc (.cells #[(.func (.func of) #[] oc)] 167)).alloc (.cells #[.nilIface, int i64 0, int i64 0, int i64 0] 162)).alloc (.cells #[.nilIface, int i64 0, int i64 0, int i64 0] 162)).alloc (.cells #[.bool false] 4)) = W0 := ⟨_, rfl⟩
 rw [hW0] at HFI BZ ⊢
 clear hW0
 have hz : W0.heap.size = w.heap.size + 4 := ud BZ
 refine zez (F := Fence.wide) (n := 7) rfl (by omega) (gf := gf) (lb := lb) rfl trivial (ud HEG) (ud HSEQ (w.heap.size + 6) (by omega)) (by omega) (fun h k => h.trans k) (fun W o o' h hc hw => KX.putObj o' (by omega) (by omega) h hw) (ud HFI).i5 (fun _ => rfl)
  (fun pre W => FT (.func (.func of) #[] oc) w ((foldT ord pre).map tk) W)
  (fun _ _ _ => False)
  (fun s A B row hs hg hr => FT.own (by omega) hs hg hr)
  (fun _ _ _ _ _ hs _ _ => hs)
  (ud HFI)
  (fun x a' W => ∃ Bx, w.heap.size + 4 <= Bx /\ W.heap[Bx]? = some (.cells #[.iface (tk x).jt (.agg #[int i64 (tk x).s.t, int i64 (tk x).s.ser, int i64 (tk x).s.win]), int i64 (tk x).since, int i64 (tk x).tries, int i64 (tk x).rest] 162 (0, 0)) /\ a' = { tmps := #[.func (.func gf) #[] lb, .func (.func of) #[] oc, undef, .pointer (some ⟨w.heap.size, 0, none⟩), .pointer (some ⟨w.heap.size + 1, 0, none⟩), .bool false, .pointer (some ⟨w.heap.size + 2, 0, none⟩), .pointer (some ⟨w.heap.size + 3, 0, none⟩), .pointer (some ⟨Bx, 0, none⟩), .func (.func gf) #[] lb, .agg #[.iface (tk x).jt (.agg #[int i64 (tk x).s.t, int i64 (tk x).s.ser, int i64 (tk x).s.win]), int i64 (tk x).since, int i64 (tk x).tries, int i64 (tk x).rest], undef, undef, undef, undef, undef, undef, undef, undef, undef, undef, undef, undef], defers := [] })
  (fun x a' s A B row hs hg hr => by
   obtain ⟨Bx, h1, h2, h3⟩ := hs
   exact ⟨Bx, h1, zap h2 hg (fun r e => (hr r e).2), h3⟩) ?assign ?body ?done ?stop
 case assign =>
  rintro l pre x W K hi hK
  have hwz := hi.i5.size
  have hbz := zaa hi.i4
  have HK := zac hK
  have HI := zac hi
  clear hK hi
  gi_wp2
  have hba := (Below.refl W.heap.size W).alloc (Nat.le_refl _) (.cells #[.iface (tk x).jt (.agg #[int i64 (tk x).s.t, int i64 (tk x).s.ser, int i64 (tk x).s.win]), int i64 (tk x).since, int i64 (tk x).tries, int i64 (tk x).rest] 162)
  refine ud HK _ _ (zaf hba) (KX.of_below hba) ((ud HI).later hba) ⟨W.heap.size, by omega, zag _ _, rfl⟩
 case body =>
  rintro l pre x a' W hl ⟨r, hr⟩ hi ⟨Bx, hBx, hx, rfl⟩ hlt
  have hwz := hi.i5.size
  have hBz := zaa hx
  have hsz := zaa hi.i4
  have c1 : W.cell? ⟨w.heap.size, 0, none⟩ = some (.func (.func of) #[] oc) := by rw [zab hi.i1]; rfl
  have x0 : W.cell? ⟨Bx, 0, none⟩ = some (.iface (tk x).jt (.agg #[int i64 (tk x).s.t, int i64 (tk x).s.ser, int i64 (tk x).s.win])) := by rw [zab hx]; rfl
  have x1 : W.cell? ⟨Bx, 1, none⟩ = some (int i64 (tk x).since) := by rw [zab hx]; rfl
  have x2 : W.cell? ⟨Bx, 2, none⟩ = some (int i64 (tk x).tries) := by rw [zab hx]; rfl
  have x3 : W.cell? ⟨Bx, 3, none⟩ = some (int i64 (tk x).rest) := by rw [zab hx]; rfl
  have hne1 : ¬ Bx = w.heap.size + 2 := by omega
  have hne2 : ¬ Bx = w.heap.size + 3 := by omega
  have HI := zac hi
  have HX := zac hx
  have hsn := foldT_snoc ord pre x
  cases hF : foldT ord pre with
  | none =>
   rw [hF] at hi HI hsn
   have g0 : W.cell? ⟨w.heap.size + 2, 0, none⟩ = some .nilIface := by rw [zab hi.i3]; rfl
   have g1 : W.cell? ⟨w.heap.size + 2, 1, none⟩ = some (int i64 0) := by rw [zab hi.i3]; rfl
   have g2 : W.cell? ⟨w.heap.size + 2, 2, none⟩ = some (int i64 0) := by rw [zab hi.i3]; rfl
   have g3 : W.cell? ⟨w.heap.size + 2, 3, none⟩ = some (int i64 0) := by rw [zab hi.i3]; rfl
   have gf1 := fun j => zax (show W.heap[w.heap.size + 2]? = some (.cells #[.nilIface, int i64 0, int i64 0, int i64 0] 162 (0, 0)) from hi.i3) j
   have gf2 := fun j => zax hi.i4 j
   have c4 : W.cell? ⟨w.heap.size + 3, 0, none⟩ = some (.bool false) := by rw [zab hi.i4]; rfl
   have HSN : Hid ((foldT ord (pre ++ [x])).map tk = some (tk x)) := by show _ = _; rw [hsn]; rfl
   clear hi hx hF hsn
   generalize tk x = X at *
   gi_wp2
   refine ⟨fun _ h => (by cases h), ?_⟩
   gi_wp2
   all_goals (try go_bits)
   exact ft_set hn (by omega) (ud HI) (ud HSN) (Below.refl _ _)
  | some f =>
   rw [hF] at hi HI hsn
   simp only [Option.map_some] at hi HI
   have hi3 : W.heap[w.heap.size + 2]? = some (.cells #[.iface (tk f).jt (.agg #[int i64 (tk f).s.t, int i64 (tk f).s.ser, int i64 (tk f).s.win]), int i64 (tk f).since, int i64 (tk f).tries, int i64 (tk f).rest] 162 (0, 0)) := hi.i3
   have g0 : W.cell? ⟨w.heap.size + 2, 0, none⟩ = some (.iface (tk f).jt (.agg #[int i64 (tk f).s.t, int i64 (tk f).s.ser, int i64 (tk f).s.win])) := by rw [zab hi3]; rfl
   have g1 : W.cell? ⟨w.heap.size + 2, 1, none⟩ = some (int i64 (tk f).since) := by rw [zab hi3]; rfl
   have g2 : W.cell? ⟨w.heap.size + 2, 2, none⟩ = some (int i64 (tk f).tries) := by rw [zab hi3]; rfl
   have g3 : W.cell? ⟨w.heap.size + 2, 3, none⟩ = some (int i64 (tk f).rest) := by rw [zab hi3]; rfl
   have c4 : W.cell? ⟨w.heap.size + 3, 0, none⟩ = some (.bool true) := by rw [zab hi.i4]; rfl
   have HC := zac (ud HOF x f W hi.i5)
   have hs2 := zaa hi.i3
   have HEO' := zac (ud HEO)
   have eo' := ud HEO
   clear hi hx hF
   by_cases ho : ord x f < 0
   ·have HSN : Hid ((foldT ord (pre ++ [x])).map tk = some (tk x)) := by show _ = _; rw [hsn]; simp [stepT, ho]
    clear hsn
    generalize ord x f = O at *
    generalize tk x = X at *
    generalize tk f = Y at *
    gi_wp2
    refine ⟨trivial, (CallsIn.inRound l (callsIn_wide.2 (ud HC))).mono ?_⟩
    rintro e w' ⟨rfl, hb'⟩
    have d0 := (hb'.cell (p := ⟨Bx, 0, none⟩) hBz).trans x0; have d1 := (hb'.cell (p := ⟨Bx, 1, none⟩) hBz).trans x1; have d2 := (hb'.cell (p := ⟨Bx, 2, none⟩) hBz).trans x2; have d3 := (hb'.cell (p := ⟨Bx, 3, none⟩) hBz).trans x3; have e0 := (hb'.cell (p := ⟨w.heap.size + 2, 0, none⟩) hs2).trans g0; have e1 := (hb'.cell (p := ⟨w.heap.size + 2, 1, none⟩) hs2).trans g1; have e2 := (hb'.cell (p := ⟨w.heap.size + 2, 2, none⟩) hs2).trans g2; have e3 := (hb'.cell (p := ⟨w.heap.size + 2, 3, none⟩) hs2).trans g3; have e4 := (hb'.cell (p := ⟨w.heap.size + 3, 0, none⟩) hsz).trans c4; have gf1 := fun j => zax (show w'.heap[w.heap.size + 2]? = some (.cells #[.iface Y.jt (.agg #[int i64 Y.s.t, int i64 Y.s.ser, int i64 Y.s.win]), int i64 Y.since, int i64 Y.tries, int i64 Y.rest] 162 (0, 0)) from ((ud HI).later hb').i3) j; have gf2 := fun j => zax ((ud HI).later hb').i4 j; have HB' := zac hb'; clear hb'
    gi_wp2
    all_goals (try go_bits)
    exact ft_set hn (by omega) (ud HI) (ud HSN) (ud HB')
   ·have HSN : Hid ((foldT ord (pre ++ [x])).map tk = some (tk f)) := by show _ = _; rw [hsn]; simp [stepT, ho]
    have ho2 : decide (ord x f < 0) = false := by simpa using ho
    clear hsn
    generalize ord x f = O at *
    generalize tk x = X at *
    generalize tk f = Y at *
    gi_wp2
    refine ⟨trivial, (CallsIn.inRound l (callsIn_wide.2 (ud HC))).mono ?_⟩
    rintro e w' ⟨rfl, hb'⟩
    have HB' := zac hb'
    clear hb'
    gi_wp2
    all_goals (try go_bits)
    exact ft_stay (ud HI) (ud HSN) (ud HB')
 case done =>
  rintro D xs W hD hS hi hK
  have HI := zac hi
  have HK := zac hK
  have HS := zac hS
  have hne : D ≠ w.heap.size + 1 := by omega
  have r0 : W.cell? ⟨w.heap.size + 1, 0, none⟩ = some .nilIface := by rw [zab hi.i2]; rfl
  have r1 : W.cell? ⟨w.heap.size + 1, 1, none⟩ = some (int i64 0) := by rw [zab hi.i2]; rfl
  have r2 : W.cell? ⟨w.heap.size + 1, 2, none⟩ = some (int i64 0) := by rw [zab hi.i2]; rfl
  have r3 : W.cell? ⟨w.heap.size + 1, 3, none⟩ = some (int i64 0) := by rw [zab hi.i2]; rfl
  have gf1 := fun j => zax (show W.heap[w.heap.size + 1]? = some (.cells #[.nilIface, int i64 0, int i64 0, int i64 0] 162 (0, 0)) from hi.i2) j
  cases hfo : foldT ord xs with
  | none =>
   rw [hfo] at hi HI
   have g0 : W.cell? ⟨w.heap.size + 2, 0, none⟩ = some .nilIface := by rw [zab hi.i3]; rfl
   have g1 : W.cell? ⟨w.heap.size + 2, 1, none⟩ = some (int i64 0) := by rw [zab hi.i3]; rfl
   have g2 : W.cell? ⟨w.heap.size + 2, 2, none⟩ = some (int i64 0) := by rw [zab hi.i3]; rfl
   have g3 : W.cell? ⟨w.heap.size + 2, 3, none⟩ = some (int i64 0) := by rw [zab hi.i3]; rfl
   have c4 : W.cell? ⟨w.heap.size + 3, 0, none⟩ = some (.bool false) := by rw [zab hi.i4]; rfl
   have HFO := zac hfo
   clear hi hK hS hfo
   gi_wp2
   gi_region
   gi_wp2
   have hrow := set4d (show W.heap[w.heap.size + 1]? = some (.cells #[.nilIface, int i64 0, int i64 0, int i64 0] 162 (0, 0)) from (ud HI).i2) .nilIface (int i64 0) (int i64 0) (int i64 0)
   have hKZ : (((((W.setCell ⟨w.heap.size + 1, 0, none⟩ .nilIface).setCell ⟨w.heap.size + 1, 1, none⟩ (int i64 0)).setCell ⟨w.heap.size + 1, 2, none⟩ (int i64 0)).setCell ⟨w.heap.size + 1, 3, none⟩ (int i64 0)).drew).heap[D]? = some (.deferred (some [])) := by
    show ((((W.setCell ⟨w.heap.size + 1, 0, none⟩ .nilIface).setCell ⟨w.heap.size + 1, 1, none⟩ (int i64 0)).setCell ⟨w.heap.size + 1, 2, none⟩ (int i64 0)).setCell ⟨w.heap.size + 1, 3, none⟩ (int i64 0)).heap[D]? = _
    rw [zay hne, zay hne, zay hne, zay hne]; exact ud HK
   have hbel := ((ud HI).i5).trans (below4d (w := W) (B := w.heap.size) (g := w.heap.size + 1) (Nat.le_succ _) .nilIface (int i64 0) (int i64 0) (int i64 0))
   refine ⟨by simp, .inl ⟨_, _, rfl, run_takeDeferred hKZ, ?_⟩⟩
   refine ⟨_, zbh Tryz.results85 _ _ (w.heap.size + 1) _ _ _ _ _ rfl rfl ((World.putObj_heap_other (fun e => hne e.symm)).trans hrow) Tryz.underlying162 rfl (by kernel_rfl), xs, ud HS, ?_, zcj hbel (Nat.le_refl _) (by omega) hKZ _⟩
   rw [ud HFO]; rfl
  | some f =>
   rw [hfo] at hi HI
   simp only [Option.map_some] at hi HI
   have hi3 : W.heap[w.heap.size + 2]? = some (.cells #[.iface (tk f).jt (.agg #[int i64 (tk f).s.t, int i64 (tk f).s.ser, int i64 (tk f).s.win]), int i64 (tk f).since, int i64 (tk f).tries, int i64 (tk f).rest] 162 (0, 0)) := hi.i3
   have g0 : W.cell? ⟨w.heap.size + 2, 0, none⟩ = some (.iface (tk f).jt (.agg #[int i64 (tk f).s.t, int i64 (tk f).s.ser, int i64 (tk f).s.win])) := by rw [zab hi3]; rfl
   have g1 : W.cell? ⟨w.heap.size + 2, 1, none⟩ = some (int i64 (tk f).since) := by rw [zab hi3]; rfl
   have g2 : W.cell? ⟨w.heap.size + 2, 2, none⟩ = some (int i64 (tk f).tries) := by rw [zab hi3]; rfl
   have g3 : W.cell? ⟨w.heap.size + 2, 3, none⟩ = some (int i64 (tk f).rest) := by rw [zab hi3]; rfl
   have c4 : W.cell? ⟨w.heap.size + 3, 0, none⟩ = some (.bool true) := by rw [zab hi.i4]; rfl
   have HFO : Hid ((foldT ord xs).map tk = some (tk f) /\ (foldT ord xs).isSome = true) := by show _ /\ _; rw [hfo]; exact ⟨rfl, rfl⟩
   clear hi hK hS hfo hi3
   generalize tk f = y at *
   gi_wp2
   gi_region
   gi_wp2
   have hrow := set4d (show W.heap[w.heap.size + 1]? = some (.cells #[.nilIface, int i64 0, int i64 0, int i64 0] 162 (0, 0)) from (ud HI).i2) (.iface y.jt (.agg #[int i64 y.s.t, int i64 y.s.ser, int i64 y.s.win])) (int i64 y.since) (int i64 y.tries) (int i64 y.rest)
   have hKZ : ((((W.setCell ⟨w.heap.size + 1, 0, none⟩ (.iface y.jt (.agg #[int i64 y.s.t, int i64 y.s.ser, int i64 y.s.win]))).setCell ⟨w.heap.size + 1, 1, none⟩ (int i64 y.since)).setCell ⟨w.heap.size + 1, 2, none⟩ (int i64 y.tries)).setCell ⟨w.heap.size + 1, 3, none⟩ (int i64 y.rest)).drew.heap[D]? = some (.deferred (some [])) := by
    show ((((W.setCell ⟨w.heap.size + 1, 0, none⟩ (.iface y.jt (.agg #[int i64 y.s.t, int i64 y.s.ser, int i64 y.s.win]))).setCell ⟨w.heap.size + 1, 1, none⟩ (int i64 y.since)).setCell ⟨w.heap.size + 1, 2, none⟩ (int i64 y.tries)).setCell ⟨w.heap.size + 1, 3, none⟩ (int i64 y.rest)).heap[D]? = _
    rw [zay hne, zay hne, zay hne, zay hne]; exact ud HK
   have hbel := ((ud HI).i5).trans (below4d (w := W) (B := w.heap.size) (g := w.heap.size + 1) (Nat.le_succ _) (.iface y.jt (.agg #[int i64 y.s.t, int i64 y.s.ser, int i64 y.s.win])) (int i64 y.since) (int i64 y.tries) (int i64 y.rest))
   refine ⟨by simp, .inl ⟨_, _, rfl, run_takeDeferred hKZ, ?_⟩⟩
   refine ⟨_, zbh Tryz.results85 _ _ (w.heap.size + 1) _ _ _ _ _ rfl rfl ((World.putObj_heap_other (fun e => hne e.symm)).trans hrow) Tryz.underlying162 rfl (by kernel_rfl), xs, ud HS, ?_, zcj hbel (Nat.le_refl _) (by omega) hKZ _⟩
   rw [(ud HFO).1, (ud HFO).2]; rfl
 case stop =>
  rintro D c pre W _ _ h _
  exact h.elim
structure Ids where
 x : Nat
 s : Nat
 lb : Nat
 gb : Nat
 b : Nat
 tb : Nat
 qb : Nat
 tv : Value
structure zat (w : World) (i : Ids) (c : Cf) (ep : Int) (m : MS) : Prop where
 head : w.heap[i.x]? = some (.cells #[int i64 c.s, int i64 c.le, int i64 c.la, int i64 c.wi, int i64 c.ke, int i64 c.qu, i.tv, int i64 ep, int i64 m.now, .pointer (some ⟨i.s, 0, none⟩), .pointer (some ⟨i.b, 0, none⟩)] 84 (0, 0))
 set : zcp w i.s c i.tv i.lb i.gb m.Gl m.L
 board : zav w i.b c i.tv ep m.num i.tb i.qb m.TL m.QL
 a1 : i.lb ≠ i.tb
 a2 : i.lb ≠ i.qb
 a3 : i.gb ≠ i.tb
 a4 : i.gb ≠ i.qb
def zbx (i : Ids) (k : Nat) : Prop := k = i.x \/ sfoot i.s i.tv i.lb i.gb k \/ bfoot i.b i.tb i.qb k
theorem zda {α β : Type} {M : MK α β} {w : World} {b : Nat} {L : List (α × β)} (h : zbs M w b L) {k : Nat} {cs : Array Value} {t : TypeId} {fr : Nat × Nat} (hk : w.heap[k]? = some (.cells cs t fr)) : b ≠ k := fun e => by
 obtain ⟨es, cl, hb, _⟩ := h; rw [e, hk] at hb; cases hb
section
variable {w : World} {i : Ids} {c : Cf} {ep : Int} {m : MS}
theorem zat.lt (h : zat w i c ep m) : i.x < w.heap.size := zaa h.head
theorem zat.kept {f : Nat -> Prop} {w' : World} (h : zat w i c ep m) (hk : zaj f w w') (hn : ∀ k, zbx i k -> ¬ f k) : zat w' i c ep m :=
 ⟨hk.heap h.head (hn i.x (.inl rfl)), h.set.kept hk (fun k hh => hn k (.inr (.inl hh))), h.board.kept hk (fun k hh => hn k (.inr (.inr hh))), h.a1, h.a2, h.a3, h.a4⟩
theorem zat.later {w' : World} (h : zat w i c ep m) (hb : Below w.heap.size w w') : zat w' i c ep m := h.kept (f := fun _ => False) (zaj.of_below hb) (fun _ _ hh => hh)
theorem zat.foot_lt (h : zat w i c ep m) : ∀ k, zbx i k -> k < w.heap.size := fun k hk => by
 rcases hk with rfl | hk | hk
 ·exact h.lt
 ·exact h.set.foot_lt k hk
 ·exact h.board.foot_lt k hk
theorem zat.cells (h : zat w i c ep m) : w.cell? ⟨i.x, 0, none⟩ = some (int i64 c.s) /\ w.cell? ⟨i.x, 1, none⟩ = some (int i64 c.le) /\ w.cell? ⟨i.x, 2, none⟩ = some (int i64 c.la) /\ w.cell? ⟨i.x, 3, none⟩ = some (int i64 c.wi) /\ w.cell? ⟨i.x, 4, none⟩ = some (int i64 c.ke) /\ w.cell? ⟨i.x, 5, none⟩ = some (int i64 c.qu) /\ w.cell? ⟨i.x, 6, none⟩ = some i.tv /\ w.cell? ⟨i.x, 7, none⟩ = some (int i64 ep) /\ w.cell? ⟨i.x, 8, none⟩ = some (int i64 m.now) /\ w.cell? ⟨i.x, 9, none⟩ = some (.pointer (some ⟨i.s, 0, none⟩)) /\ w.cell? ⟨i.x, 10, none⟩ = some (.pointer (some ⟨i.b, 0, none⟩)) := by
 refine ⟨?_, ?_, ?_, ?_, ?_, ?_, ?_, ?_, ?_, ?_, ?_⟩ <;> rw [zab h.head] <;> rfl
theorem zat.x_set (h : zat w i c ep m) : ∀ k, sfoot i.s i.tv i.lb i.gb k -> k ≠ i.x := fun k hh e => by
 subst e
 have hx := h.head
 rcases hh with e | hh | e | e
 ·rw [e, h.set.head] at hx; cases hx
 ·obtain ⟨cur, hc⟩ := zbv h.set.trow hh
  rw [hc] at hx; cases hx
 ·exact zda (live_map.1 h.set.live) hx e.symm
 ·exact zda h.set.gone hx e.symm
theorem zat.x_board (h : zat w i c ep m) : ∀ k, bfoot i.b i.tb i.qb k -> k ≠ i.x := fun k hh e => by
 subst e
 have hx := h.head
 rcases hh with e | e | e
 ·rw [e, h.board.head] at hx; injection hx with hx; injection hx with h1 h2; exact absurd h2 (by decide)
 ·exact zda h.board.tasks hx e.symm
 ·exact zda h.board.leases hx e.symm
theorem zat.parts (h : zat w i c ep m) : ∀ k, sfoot i.s i.tv i.lb i.gb k -> ¬ bfoot i.b i.tb i.qb k := fun k hs hb => by
 rcases hb with e | e | e
 ·have hx := h.board.head
  rw [<- e] at hx
  rcases hs with e | hh | e | e
  ·rw [e, h.set.head] at hx; cases hx
  ·obtain ⟨cur, hc⟩ := zbv h.set.trow hh
   rw [hc] at hx; cases hx
  ·exact zda (live_map.1 h.set.live) hx e.symm
  ·exact zda h.set.gone hx e.symm
 ·rcases hs with e' | hh | e' | e'
  ·exact zda h.board.tasks h.set.head (by omega)
  ·obtain ⟨cur, hc⟩ := zbv h.set.trow hh
   exact zda h.board.tasks hc e.symm
  ·exact h.a1 (by omega)
  ·exact h.a3 (by omega)
 ·rcases hs with e' | hh | e' | e'
  ·exact zda h.board.leases h.set.head (by omega)
  ·obtain ⟨cur, hc⟩ := zbv h.set.trow hh
   exact zda h.board.leases hc e.symm
  ·exact h.a2 (by omega)
  ·exact h.a4 (by omega)
theorem zat.setNow (h : zat w i c ep m) (n : Int) : zat (w.setCell ⟨i.x, 8, none⟩ (int i64 n)) i c ep { m with now := n } := by
 have hk : zaj (fun k => k = i.x) w (w.setCell ⟨i.x, 8, none⟩ (int i64 n)) := zae (zaj.refl _ _) rfl
 exact ⟨zcu (i := 8) h.head (int i64 n), h.set.kept hk (fun k hh => h.x_set k hh), h.board.kept hk (fun k hh => h.x_board k hh), h.a1, h.a2, h.a3, h.a4⟩
theorem zat.putBoard {w' : World} (h : zat w i c ep m) {num : Int} {TL : List (Jk × Tsk)} {QL : List (Tok × Lse)} (hb : zav w' i.b c i.tv ep num i.tb i.qb TL QL) (hk : zaj (bfoot i.b i.tb i.qb) w w') : zat w' i c ep { m with num := num, TL := TL, QL := QL } :=
 ⟨hk.heap h.head (fun e => h.x_board _ e rfl), h.set.kept hk (fun k hh => h.parts k hh), hb, h.a1, h.a2, h.a3, h.a4⟩
theorem zat.putSet {w' : World} (h : zat w i c ep m) {L : LV} {Gl : List (Sg × Unit)} (hb : zcp w' i.s c i.tv i.lb i.gb Gl L) (hk : zaj (sfoot i.s i.tv i.lb i.gb) w w') : zat w' i c ep { m with L := L, Gl := Gl } :=
 ⟨hk.heap h.head (fun e => h.x_set _ e rfl), hb, h.board.kept hk (fun k hh e => h.parts k e hh), h.a1, h.a2, h.a3, h.a4⟩
theorem zat.ts (h : zat w i c ep m) : ∃ a cap, i.tv = .slice a c.n cap /\ TS w a c.n c.F c.W c.K := by
 obtain ⟨a, cap, e⟩ := zbt h.set.trow
 exact ⟨a, cap, e, TS.of_owns (e ▸ h.set.trow)⟩
end
end Go.Proofs.YtpbimdkclnekeaaGreat
