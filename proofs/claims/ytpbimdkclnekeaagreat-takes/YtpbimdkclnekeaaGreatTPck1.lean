import Derived.Test.YtpbimdkclnekeaaGreatTZet7
import Derived.Test.YtpbimdkclnekeaaGreatTJn1

namespace Go.Proofs.YtpbimdkclnekeaaGreat
open Go.RowKit Go.Maps Go.Shelf
open Go.ChangeMaps (setBlock)
set_option linter.unusedVariables false
def freeB (QL : List (Tok × Lse)) (now : Int) (x : Tsk) : Bool := decide (x.rest <= now) && !leasedB QL x.key
theorem st_func (P : Program) (w : World) (a : Addr) (m : Mode) (fn : Fn) (first captured : Array Value) : (store a (.func fn first captured) m).run P w = stored P w a (.func fn first captured) m := _root_.Go.run_store P w a _ m rfl
attribute [local go_sem] st_func
end Go.Proofs.YtpbimdkclnekeaaGreat

namespace Go.Proofs.YtpbimdkclnekeaaGreat
open Go.RowKit Go.Maps Go.Shelf
set_option linter.unusedVariables false
def heldV1 (v : SV) : Int := if v.st = 1 then v.cl.cnt else 0
def heldL (L : LV) : Int := zcx (L.map (fun p => heldV1 p.2))
section
variable {c : Cf} {L : LV}
theorem addTo_mem (x : Nm) : ∀ (k : Nat) (L : LV) {p : Sg × SV}, p ∈ addTo c x k L -> p ∈ L \/ ∃ j : Nat, j < k /\ p = (zar c (j : Int) x, ⟨2, zds⟩) /\ zar c (j : Int) x ∉ zam L
 | 0, L, p, h => .inl h
 | k + 1, L, p, h => by
  have h' : p ∈ zdc c x k (addTo c x k L) := h
  unfold zdc at h'
  split at h'
  ·rcases addTo_mem x k L h' with a | ⟨j, a, b⟩
   ·exact .inl a
   ·exact .inr ⟨j, by omega, b⟩
  ·rename_i hn
   rcases zde h' with rfl | ⟨h', _⟩
   ·refine .inr ⟨k, by omega, rfl, fun hm => hn ?_⟩
    clear h h' hn
    have keep : ∀ (k : Nat) (s : Sg), s ∈ zam L -> s ∈ zam (addTo c x k L) := fun k => by
     induction k with
     | zero => exact fun s h => h
     | succ k ih => intro s h; show s ∈ zam (zdc c x k _); unfold zdc; split; exact ih s h; exact zcw.2 (.inl (ih s h))
    exact keep k _ hm
   ·rcases addTo_mem x k L h' with a | ⟨j, a, b⟩
    ·exact .inl a
    ·exact .inr ⟨j, by omega, b⟩
theorem addTo_old (x : Nm) : ∀ (k : Nat) (L : LV) {p : Sg × SV}, p ∈ L -> p ∈ addTo c x k L
 | 0, L, p, h => h
 | k + 1, L, p, h => by
  have ih := addTo_old x k L h
  show p ∈ zdc c x k (addTo c x k L)
  unfold zdc
  split
  ·exact ih
  ·rename_i hn
   unfold putL; rw [if_neg hn]; exact List.mem_append_left _ ih
theorem addTo_nodup (x : Nm) : ∀ (k : Nat) (L : LV), (zam L).Nodup -> (zam (addTo c x k L)).Nodup
 | 0, L, h => h
 | k + 1, L, h => by
  show (zam (zdc c x k (addTo c x k L))).Nodup
  unfold zdc
  split
  ·exact addTo_nodup x k L h
  ·exact nodup_putL (addTo_nodup x k L h)
theorem addTo_new (x : Nm) : ∀ (k : Nat) (L : LV) (j : Nat), j < k -> zar c (j : Int) x ∈ zam (addTo c x k L)
 | k + 1, L, j, h => by
  show _ ∈ zam (zdc c x k (addTo c x k L))
  unfold zdc
  split
  ·rename_i hm
   by_cases e : j = k
   ·subst e; exact hm
   ·exact addTo_new x k L j (by omega)
  ·by_cases e : j = k
   ·subst e; exact zcw.2 (.inr rfl)
   ·exact zcw.2 (.inl (addTo_new x k L j (by omega)))
theorem seg_open {now : Int} (hc : c.ok) {x : Nm} {t : Int} (h1 : -1 <= t) (h2 : t < c.n) (hx : now - c.la <= x.tm) : ¬ c.clo now (zar c t x) := by
 obtain ⟨hw, _⟩ := hc.width h1 h2
 have : x.tm < (x.tm / c.width t + 1) * c.width t := Int.lt_ediv_add_one_mul_self _ (by omega)
 unfold Cf.clo zar
 dsimp only
 omega
theorem seg_inR (hc : c.ok) {x : Nm} (hs : 0 <= x.ser /\ x.ser < 4) (hx : 0 <= x.tm /\ x.tm <= 100000) {t : Int} (h1 : -1 <= t) (h2 : t < c.n) : inR c (zar c t x) := by
 obtain ⟨hw, _⟩ := hc.width h1 h2
 have hn := hc.n4
 have hd : 0 <= x.tm / c.width t := Int.ediv_nonneg hx.1 (by omega)
 have hd2 : x.tm / c.width t <= x.tm := Int.ediv_le_self _ hx.1
 refine ⟨⟨?_, ?_, ?_⟩, h1, h2, hd, ?_⟩
 ·show i64B t; unfold i64B; omega
 ·show i64B x.ser; unfold i64B; omega
 ·show i64B (x.tm / c.width t); unfold i64B; omega
 ·show x.tm / c.width t <= 100000; omega
theorem seg_above (hc : c.ok) (hf : c.fits) {x : Nm} (hx : 0 <= x.tm) : (⟨(c.b : Int), x.ser, (zbx c x).win * c.wi / c.W c.b⟩ : Sg) = zar c (c.b : Int) x := by
 obtain ⟨q, hq, hW⟩ := hf.div0
 have hwi := hc.wi1
 have hw0 : c.width (c.b : Int) = c.W c.b := by unfold Cf.width zbr; rw [if_neg (by omega)]; simp
 have hw1 : c.width (-1) = c.wi := by unfold Cf.width zbr; rw [if_pos rfl]
 unfold zbx zar
 rw [hw0, hw1]
 dsimp only
 have : x.tm / c.wi * c.wi / c.W c.b = x.tm / c.W c.b := by
  rw [hW, Int.mul_comm c.wi q, Int.mul_ediv_mul_of_pos_left _ _ (by omega), Int.ediv_ediv_of_nonneg (by omega), Int.mul_comm c.wi q]
 rw [this]
end
section
variable {c : Cf} {ep : Int} {m : MS}
theorem MOk.rawAt (h : SegOk c m.now m.L m.Gl) (hc : c.ok) {x : Nm} {v : SV} (hv : getL m.L (zbx c x) = some v) : v.st = 1 /\ 1 <= v.cl.cnt /\ v.cl.cnt <= 400 /\ -(v.cl.cnt * 2147483648) <= v.cl.sum /\ v.cl.sum <= v.cl.cnt * 2147483648 := by
 have hm := getL_mem hv
 obtain ⟨a, b, d⟩ := h.raw _ hm rfl
 exact ⟨a, b, h.cnt hc _ hm rfl, d⟩
theorem sum_raw (h : SegOk c m.now m.L m.Gl) (hc : c.ok) (x : Nm) (f : SV -> Int) (hf1 : ∀ cl : Cl, f ⟨1, cl⟩ = cl.cnt) : zcx ((zct c m.L x).map (fun p => f p.2)) = zcx (m.L.map (fun p => f p.2)) + 1 := by
 unfold zct
 cases hg : getL m.L (zbx c x) with
 | none => rw [sum_put_new f (zfg.1 hg), hf1]; simp [zdy]
 | some v =>
  obtain ⟨h1, _⟩ := MOk.rawAt h hc hg
  rw [sum_put_at h.nl (getL_mem hg) f, hf1]
  have : f v = v.cl.cnt := by
   have e : v = ⟨1, v.cl⟩ := by cases v; simp at h1; subst h1; rfl
   rw [e, hf1]
  rw [this]; simp [zdy]; omega
theorem sum_to (x : Nm) (f : SV -> Int) (hf2 : f ⟨2, zds⟩ = 0) : ∀ (k : Nat) (L : LV), zcx ((addTo c x k L).map (fun p => f p.2)) = zcx (L.map (fun p => f p.2))
 | 0, L => rfl
 | k + 1, L => by
  show zcx ((zdc c x k (addTo c x k L)).map (fun p => f p.2)) = _
  unfold zdc
  split
  ·exact sum_to x f hf2 k L
  ·rename_i hn
   rw [sum_put_new f hn, sum_to x f hf2 k L, hf2]; omega
theorem used_addM (h : SegOk c m.now m.L m.Gl) (hc : c.ok) (x : Nm) : zby (addL c m.L x) = zby m.L + 1 + 2 * zeq c m.L x c.n := by
 unfold addL; rw [used_to]
 have := sum_raw h hc x zfn (fun cl => by simp [zfn])
 unfold zby at *; omega
theorem held_addM (h : SegOk c m.now m.L m.Gl) (hc : c.ok) (x : Nm) : heldL (addL c m.L x) = heldL m.L + 1 := by
 unfold addL heldL
 rw [sum_to x heldV1 (by simp [heldV1]) c.n]
 exact sum_raw h hc x heldV1 (fun cl => by simp [heldV1])
theorem MOk.added (h : MOk c ep m) (hc : c.ok) (hf : c.fits) {x : Nm} (hs : 0 <= x.ser /\ x.ser < 4) (hx : 0 <= x.tm /\ x.tm <= m.now) (hl : m.now - c.la <= x.tm) (hv : -2147483648 <= x.val /\ x.val <= 2147483647) (hu : zby m.L + 1 + 2 * zeq c m.L x c.n <= c.qu) :
  MOk c ep { m with L := addL c m.L x } := by
 have hsg := h.seg
 have hnow := h.now
 have hn1 := hc.n1
 have hopen := fun (t : Int) (h1 : -1 <= t) (h2 : t < c.n) => seg_open hc h1 h2 hl
 have hin := fun (t : Int) (h1 : -1 <= t) (h2 : t < c.n) => seg_inR hc hs ⟨hx.1, by omega⟩ h1 h2 (x := x)
 have hcases : ∀ p, p ∈ addL c m.L x -> (p ∈ m.L /\ p.1 ≠ zbx c x) \/ p = (zbx c x, ⟨1, zdy x.val ((getL m.L (zbx c x)).map (·.cl))⟩) \/ ∃ j : Nat, j < c.n /\ p = (zar c (j : Int) x, ⟨2, zds⟩) /\ zar c (j : Int) x ∉ zam m.L := fun p hp => by
  rcases addTo_mem x c.n _ hp with hp | ⟨j, h1, h2, h3⟩
  ·rcases zde hp with rfl | hp
   ·exact .inr (.inl rfl)
   ·exact .inl hp
  ·exact .inr (.inr ⟨j, h1, h2, fun hm => h3 (zcw.2 (.inl hm))⟩)
 have hold : ∀ p, p ∈ m.L -> p.1 ≠ zbx c x -> p ∈ addL c m.L x := fun p hp hne => addTo_old x c.n _ (by
  unfold zct putL
  split
  ·exact List.mem_map.2 ⟨p, hp, by rw [if_neg hne]⟩
  ·exact List.mem_append_left _ hp)
 have hnd : (zam (addL c m.L x)).Nodup := addTo_nodup x c.n _ (nodup_putL hsg.nl)
 have hraw : zbx c x ∈ zam (addL c m.L x) := by
  have : (zbx c x, (⟨1, zdy x.val ((getL m.L (zbx c x)).map (·.cl))⟩ : SV)) ∈ addL c m.L x := addTo_old x c.n _ (by
   have hk : zbx c x ∈ zam (zct c m.L x) := zcw.2 (.inr rfl)
   have := zbf hk
   have e : stL (zct c m.L x) (zbx c x) = ⟨1, zdy x.val ((getL m.L (zbx c x)).map (·.cl))⟩ := by unfold zct; rw [stL_put hsg.nl, if_pos rfl]
   rw [e] at this; exact this)
  exact List.mem_map.2 ⟨_, this, rfl⟩
 have hkey : ∀ k, k ∈ zam m.L -> k ∈ zam (addL c m.L x) := fun k hk => by
  by_cases e : k = zbx c x
  ·rw [e]; exact hraw
  ·obtain ⟨p, hp, rfl⟩ := List.mem_map.1 (show k ∈ m.L.map (·.1) from hk)
   exact List.mem_map.2 ⟨p, hold p hp e, rfl⟩
 have hst : ∀ k, k ∈ zam m.L -> k ≠ zbx c x -> stL (addL c m.L x) k = stL m.L k := fun k hk hne => stL_of hnd (hold _ (zbf hk) hne)
 have hrt : (zbx c x).t = -1 := rfl
 refine ⟨h.now, ⟨fun p hp => ?_, hnd, fun p hp ht => ?_, fun p hp ht => ?_, fun p hp => ?_, hsg.ng, fun p hp h3 => ?_, hsg.goc, fun p hp ht => ?_, ?_⟩, fun p hp => ?_, h.nt, h.leas, h.nq, h.jobs, h.num⟩
 ·rcases hcases p hp with ⟨hp, _⟩ | rfl | ⟨j, hj, rfl, _⟩
  ·exact hsg.inr p hp
  ·exact hin (-1) (by omega) (by omega)
  ·exact hin j (by omega) (by omega)
 ·rcases hcases p hp with ⟨hp, _⟩ | rfl | ⟨j, hj, rfl, _⟩
  ·exact hsg.raw p hp ht
  ·refine ⟨rfl, ?_⟩
   dsimp only
   cases hg : getL m.L (zbx c x) with
   | none => simp [zdy]; omega
   | some v => obtain ⟨_, b, _, d, e⟩ := MOk.rawAt hsg hc hg; simp only [Option.map_some, zdy]; omega
  ·have : ((j : Int)) = -1 := ht
   omega
 ·rcases hcases p hp with ⟨hp, _⟩ | rfl | ⟨j, hj, rfl, _⟩
  ·exact hsg.tier p hp ht
  ·have : 0 <= (zbx c x).t := ht
   omega
  ·exact .inl rfl
 ·rcases hcases p hp with ⟨hp, _⟩ | rfl | ⟨j, hj, rfl, _⟩
  ·exact hsg.disj p hp
  ·exact fun hk => hopen (-1) (by omega) (by omega) (hsg.goc _ hk)
  ·exact fun hk => hopen j (by omega) (by omega) (hsg.goc _ hk)
 ·rcases hcases p hp with ⟨hp, _⟩ | rfl | ⟨j, hj, rfl, _⟩
  ·exact hsg.pubc p hp h3
  ·simp at h3
  ·simp at h3
 ·rcases hcases p hp with ⟨hp, _⟩ | rfl | ⟨j, hj, rfl, _⟩
  ·rcases hsg.above p hp ht with ha | ha
   ·exact .inl (hkey _ ha)
   ·exact .inr ha
  ·left
   show (⟨(c.b : Int), x.ser, (zbx c x).win * c.wi / c.W c.b⟩ : Sg) ∈ _
   rw [seg_above hc hf hx.1]
   exact addTo_new x c.n _ c.b hf.bn
  ·have : ((j : Int)) = -1 := ht
   omega
 ·show zby (addL c m.L x) <= c.qu
  rw [used_addM hsg hc]; exact hu
 ·have h1 := h.tasks p hp
  have hne : p.2.s ≠ zbx c x := fun e => by
   have := h1.clo
   rw [e] at this
   exact hopen (-1) (by omega) (by omega) this
  have hst2 := hst _ h1.mem hne
  exact ⟨h1.key, hkey _ h1.mem, h1.clo, fun e => by show (stL (addL c m.L x) p.2.s).st = 2; rw [hst2]; exact h1.roll e, fun e => by show (stL (addL c m.L x) p.2.s).st ≠ 2; rw [hst2]; exact h1.recl e, h1.since, h1.tries⟩
theorem MOk.small (h : MOk c ep m) (hc : c.ok) : ∀ p ∈ m.L, p.1.t = -1 -> 0 <= p.2.cl.cnt /\ p.2.cl.cnt <= 1000000000000 /\ -1000000000000000000 <= p.2.cl.sum /\ p.2.cl.sum <= 1000000000000000000 := fun p hp ht => by
 obtain ⟨_, a, b, d⟩ := h.seg.raw p hp ht
 have := h.seg.cnt hc p hp ht
 omega
end
section
variable {c : Cf} {now : Int} {L : LV} {Gl : List (Sg × Unit)}
theorem used_parts : ∀ (L : LV), (∀ p ∈ L, p.2.st = 1 \/ p.2.st = 2 \/ p.2.st = 3) -> zby L = heldL L + 2 * (zcv L 2 + zcv L 3)
 | [], _ => by simp [zby, heldL, zcv, zcx]
 | p :: L, h => by
  have ih := used_parts L (fun q hq => h q (by simp [hq]))
  unfold zby heldL zcv at *
  simp only [List.map_cons, zcx]
  have := h p (by simp)
  unfold zfn heldV1 isSt
  rcases this with e | e | e <;> simp [e] <;> unfold zfn heldV1 isSt at ih <;> omega
theorem SegOk.sts (h : SegOk c now L Gl) : ∀ p ∈ L, p.2.st = 1 \/ p.2.st = 2 \/ p.2.st = 3 := fun p hp => by
 have hr := h.inr p hp
 by_cases ht : p.1.t = -1
 ·exact .inl (h.raw p hp ht).1
 ·exact .inr (h.tier p hp (by have := hr.2.1; omega))
theorem SegOk.held1 (h : SegOk c now L Gl) : ∀ p ∈ L, p.2.st = 1 -> 1 <= p.2.cl.cnt := fun p hp h1 => by
 have hr := h.inr p hp
 by_cases ht : p.1.t = -1
 ·exact (h.raw p hp ht).2.1
 ·have := h.tier p hp (by have := hr.2.1; omega); omega
end
def PComp (c : Cf) (m : MS) : Prop := ∃ Bs : List (Sg × Unit), (∀ x, x ∈ zaj Bs ↔ ∃ k, k ∈ zam m.L /\ (stL m.L k).st = 2 /\ x ∈ hangL c k) /\ (∀ s, s ∈ zam m.L -> rollB c Bs m.L m.now s = true -> (⟨1, s⟩ : Jk) ∈ zaj m.TL) /\ (∀ s, s ∈ zam m.L -> reclB c m.L m.now s = true -> (⟨2, s⟩ : Jk) ∈ zaj m.TL)
theorem postR_keys {now : Int} : ∀ (ys : List Sg) {T : List (Jk × Tsk)}, (∀ k, k ∈ zaj T -> k ∈ zaj (ys.foldl (zeg now) T)) /\ ∀ s ∈ ys, (⟨1, s⟩ : Jk) ∈ zaj (ys.foldl (zeg now) T)
 | [], T => ⟨fun _ h => h, fun s hs => by cases hs⟩
 | y :: ys, T => by
  have h1 : ∀ k, k ∈ zaj T \/ k = ⟨1, y⟩ -> k ∈ zaj (zeg now T y) := fun k hk => by
   unfold zeg
   split
   ·rename_i x hx
    rcases hk with hk | rfl
    ·exact hk
    ·exact List.mem_map.2 ⟨_, zat hx, rfl⟩
   ·exact zbw.2 hk
  obtain ⟨h2, h3⟩ := postR_keys ys (T := zeg now T y)
  refine ⟨fun k hk => h2 k (h1 k (.inl hk)), fun s hs => ?_⟩
  rcases List.mem_cons.1 hs with rfl | hs
  ·exact h2 _ (h1 _ (.inr rfl))
  ·exact h3 s hs
theorem postC_keys {now : Int} : ∀ (ys : List Sg) {T : List (Jk × Tsk)}, (∀ k, k ∈ zaj T -> k ∈ zaj (ys.foldl (zfj now) T)) /\ ∀ s ∈ ys, (⟨2, s⟩ : Jk) ∈ zaj (ys.foldl (zfj now) T)
 | [], T => ⟨fun _ h => h, fun s hs => by cases hs⟩
 | y :: ys, T => by
  have h1 : ∀ k, k ∈ zaj T \/ k = ⟨2, y⟩ -> k ∈ zaj (zfj now T y) := fun k hk => by
   unfold zfj
   split
   ·rename_i x hx
    rcases hk with hk | rfl
    ·exact hk
    ·exact List.mem_map.2 ⟨_, zat hx, rfl⟩
   ·exact zbw.2 hk
  obtain ⟨h2, h3⟩ := postC_keys ys (T := zfj now T y)
  refine ⟨fun k hk => h2 k (h1 k (.inl hk)), fun s hs => ?_⟩
  rcases List.mem_cons.1 hs with rfl | hs
  ·exact h2 _ (h1 _ (.inr rfl))
  ·exact h3 s hs
section
variable {c : Cf} {ep : Int} {m : MS} {ns : List Nm}
theorem PComp.of {TL' : List (Jk × Tsk)} (hp : zev c m TL') : PComp c { m with TL := TL' } := by
 obtain ⟨Bs, ys1, ys2, hB, h1, h2, rfl⟩ := hp.to
 exact ⟨Bs, hB, fun s hs hr => (postC_keys ys2).1 _ ((postR_keys ys1).2 s ((h1 s).2 ⟨hs, hr⟩)), fun s hs hr => (postC_keys ys2).2 s ((h2 s).2 ⟨hs, hr⟩)⟩
end
end Go.Proofs.YtpbimdkclnekeaaGreat
