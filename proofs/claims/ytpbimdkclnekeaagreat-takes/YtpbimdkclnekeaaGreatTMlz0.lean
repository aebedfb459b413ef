import Derived.Test.YtpbimdkclnekeaaGreatTPck1
import Derived.Test.YtpbimdkclnekeaaGreatTZet7
import Derived.Test.YtpbimdkclnekeaaGreatTKit0

namespace Go.Proofs.YtpbimdkclnekeaaGreat
open Value (int)
open IntKind (i64)
open Go.RowKit Go.Maps Go.Shelf
set_option linter.unusedVariables false
structure Ids where
 x : Nat
 s : Nat
 lb : Nat
 gb : Nat
 b : Nat
 tb : Nat
 qb : Nat
 tv : Value
structure zbb (w : World) (i : Ids) (c : Cf) (ep : Int) (m : MS) : Prop where
 head : w.heap[i.x]? = some (.cells #[int i64 c.s, int i64 c.le, int i64 c.la, int i64 c.wi, int i64 c.ke, int i64 c.qu, i.tv, int i64 ep, int i64 m.now, .pointer (some ⟨i.s, 0, none⟩), .pointer (some ⟨i.b, 0, none⟩)] 84 (0, 0))
 set : zda w i.s c i.tv i.lb i.gb m.Gl m.L
 board : zbq w i.b c i.tv ep m.num i.tb i.qb m.TL m.QL
 a1 : i.lb ≠ i.tb
 a2 : i.lb ≠ i.qb
 a3 : i.gb ≠ i.tb
 a4 : i.gb ≠ i.qb
def zcz (i : Ids) (k : Nat) : Prop := k = i.x \/ sfoot i.s i.tv i.lb i.gb k \/ bfoot i.b i.tb i.qb k
theorem zdb {α β : Type} {M : MK α β} {w : World} {b : Nat} {L : List (α × β)} (h : zce M w b L) {k : Nat} {cs : Array Value} {t : TypeId} {fr : Nat × Nat} (hk : w.heap[k]? = some (.cells cs t fr)) : b ≠ k := fun e => by
 obtain ⟨es, cl, hb, _⟩ := h; rw [e, hk] at hb; cases hb
section
variable {w : World} {i : Ids} {c : Cf} {ep : Int} {m : MS}
theorem zbb.lt (h : zbb w i c ep m) : i.x < w.heap.size := zaa h.head
theorem zbb.kept {f : Nat -> Prop} {w' : World} (h : zbb w i c ep m) (hk : zan f w w') (hn : ∀ k, zcz i k -> ¬ f k) : zbb w' i c ep m :=
 ⟨hk.heap h.head (hn i.x (.inl rfl)), h.set.kept hk (fun k hh => hn k (.inr (.inl hh))), h.board.kept hk (fun k hh => hn k (.inr (.inr hh))), h.a1, h.a2, h.a3, h.a4⟩
theorem zbb.later {w' : World} (h : zbb w i c ep m) (hb : Below w.heap.size w w') : zbb w' i c ep m := h.kept (f := fun _ => False) (zan.of_below hb) (fun _ _ hh => hh)
theorem zbb.foot_lt (h : zbb w i c ep m) : ∀ k, zcz i k -> k < w.heap.size := fun k hk => by
 rcases hk with rfl | hk | hk
 ·exact h.lt
 ·exact h.set.foot_lt k hk
 ·exact h.board.foot_lt k hk
theorem zbb.cells (h : zbb w i c ep m) : w.cell? ⟨i.x, 0, none⟩ = some (int i64 c.s) /\ w.cell? ⟨i.x, 1, none⟩ = some (int i64 c.le) /\ w.cell? ⟨i.x, 2, none⟩ = some (int i64 c.la) /\ w.cell? ⟨i.x, 3, none⟩ = some (int i64 c.wi) /\ w.cell? ⟨i.x, 4, none⟩ = some (int i64 c.ke) /\ w.cell? ⟨i.x, 5, none⟩ = some (int i64 c.qu) /\ w.cell? ⟨i.x, 6, none⟩ = some i.tv /\ w.cell? ⟨i.x, 7, none⟩ = some (int i64 ep) /\ w.cell? ⟨i.x, 8, none⟩ = some (int i64 m.now) /\ w.cell? ⟨i.x, 9, none⟩ = some (.pointer (some ⟨i.s, 0, none⟩)) /\ w.cell? ⟨i.x, 10, none⟩ = some (.pointer (some ⟨i.b, 0, none⟩)) := by
 refine ⟨?_, ?_, ?_, ?_, ?_, ?_, ?_, ?_, ?_, ?_, ?_⟩ <;> rw [zac h.head] <;> rfl
theorem zbb.x_set (h : zbb w i c ep m) : ∀ k, sfoot i.s i.tv i.lb i.gb k -> k ≠ i.x := fun k hh e => by
 subst e
 have hx := h.head
 rcases hh with e | hh | e | e
 ·rw [e, h.set.head] at hx; cases hx
 ·obtain ⟨cur, hc⟩ := zbp h.set.trow hh
  rw [hc] at hx; cases hx
 ·exact zdb (live_map.1 h.set.live) hx e.symm
 ·exact zdb h.set.gone hx e.symm
theorem zbb.x_board (h : zbb w i c ep m) : ∀ k, bfoot i.b i.tb i.qb k -> k ≠ i.x := fun k hh e => by
 subst e
 have hx := h.head
 rcases hh with e | e | e
 ·rw [e, h.board.head] at hx; injection hx with hx; injection hx with h1 h2; exact absurd h2 (by decide)
 ·exact zdb h.board.tasks hx e.symm
 ·exact zdb h.board.leases hx e.symm
theorem zbb.parts (h : zbb w i c ep m) : ∀ k, sfoot i.s i.tv i.lb i.gb k -> ¬ bfoot i.b i.tb i.qb k := fun k hs hb => by
 rcases hb with e | e | e
 ·have hx := h.board.head
  rw [<- e] at hx
  rcases hs with e | hh | e | e
  ·rw [e, h.set.head] at hx; cases hx
  ·obtain ⟨cur, hc⟩ := zbp h.set.trow hh
   rw [hc] at hx; cases hx
  ·exact zdb (live_map.1 h.set.live) hx e.symm
  ·exact zdb h.set.gone hx e.symm
 ·rcases hs with e' | hh | e' | e'
  ·exact zdb h.board.tasks h.set.head (by omega)
  ·obtain ⟨cur, hc⟩ := zbp h.set.trow hh
   exact zdb h.board.tasks hc e.symm
  ·exact h.a1 (by omega)
  ·exact h.a3 (by omega)
 ·rcases hs with e' | hh | e' | e'
  ·exact zdb h.board.leases h.set.head (by omega)
  ·obtain ⟨cur, hc⟩ := zbp h.set.trow hh
   exact zdb h.board.leases hc e.symm
  ·exact h.a2 (by omega)
  ·exact h.a4 (by omega)
theorem zbb.setNow (h : zbb w i c ep m) (n : Int) : zbb (w.setCell ⟨i.x, 8, none⟩ (int i64 n)) i c ep { m with now := n } := by
 have hk : zan (fun k => k = i.x) w (w.setCell ⟨i.x, 8, none⟩ (int i64 n)) := zag (zan.refl _ _) rfl
 exact ⟨zbz (i := 8) h.head (int i64 n), h.set.kept hk (fun k hh => h.x_set k hh), h.board.kept hk (fun k hh => h.x_board k hh), h.a1, h.a2, h.a3, h.a4⟩
theorem zbb.putBoard {w' : World} (h : zbb w i c ep m) {num : Int} {TL : List (Jk × Tsk)} {QL : List (Tok × Lse)} (hb : zbq w' i.b c i.tv ep num i.tb i.qb TL QL) (hk : zan (bfoot i.b i.tb i.qb) w w') : zbb w' i c ep { m with num := num, TL := TL, QL := QL } :=
 ⟨hk.heap h.head (fun e => h.x_board _ e rfl), h.set.kept hk (fun k hh => h.parts k hh), hb, h.a1, h.a2, h.a3, h.a4⟩
theorem zbb.putSet {w' : World} (h : zbb w i c ep m) {L : LV} {Gl : List (Sg × Unit)} (hb : zda w' i.s c i.tv i.lb i.gb Gl L) (hk : zan (sfoot i.s i.tv i.lb i.gb) w w') : zbb w' i c ep { m with L := L, Gl := Gl } :=
 ⟨hk.heap h.head (fun e => h.x_set _ e rfl), hb, h.board.kept hk (fun k hh e => h.parts k e hh), h.a1, h.a2, h.a3, h.a4⟩
theorem zbb.ts (h : zbb w i c ep m) : ∃ a cap, i.tv = .slice a c.n cap /\ TS w a c.n c.F c.W c.K := by
 obtain ⟨a, cap, e⟩ := zah h.set.trow
 exact ⟨a, cap, e, TS.of_owns (e ▸ h.set.trow)⟩
end
end Go.Proofs.YtpbimdkclnekeaaGreat

namespace Go.Proofs.YtpbimdkclnekeaaGreat
open Go.RowKit Go.Maps Go.Shelf
set_option linter.unusedVariables false
def untM (QL : List (Tok × Lse)) (t : Tok) : Int := match zbm QL t with | some g => g.til | none => 0
def tokL (ep : Int) (k : Nat) : List Tok := (List.range k).map (fun j : Nat => (⟨ep, (j : Int) + 1⟩ : Tok))
def untL (ep : Int) (QL : List (Tok × Lse)) (k : Nat) : List Int := (List.range k).map (fun j : Nat => untM QL ⟨ep, (j : Int) + 1⟩)
def sgNo (s : Sg) : Nat := ((s.t + 1) * 400004 + s.ser * 100001 + s.win).toNat
def serOk (s : Sg) : Prop := 0 <= s.ser /\ s.ser < 4
theorem sgNo_lt {c : Cf} (hc : c.ok) {s : Sg} (h : inR c s) (hs : serOk s) : sgNo s < 2000020 := by
 obtain ⟨_, h1, h2, h3, h4⟩ := h
 obtain ⟨h5, h6⟩ := hs
 have := hc.n4
 unfold sgNo; omega
theorem sgNo_inj {c : Cf} {s s' : Sg} (h : inR c s) (hs : serOk s) (h' : inR c s') (hs' : serOk s') (e : sgNo s = sgNo s') : s = s' := by
 obtain ⟨_, h1, h2, h3, h4⟩ := h
 obtain ⟨h5, h6⟩ := hs
 obtain ⟨_, g1, g2, g3, g4⟩ := h'
 obtain ⟨g5, g6⟩ := hs'
 obtain ⟨t, r, v⟩ := s
 obtain ⟨t', r', v'⟩ := s'
 unfold sgNo at e
 dsimp only at *
 have e1 : t = t' := by omega
 have e2 : r = r' := by omega
 have e3 : v = v' := by omega
 rw [e1, e2, e3]
structure SOk (c : Cf) (ep : Int) (m : MS) (nn : Nat) : Prop where
 ok : MOk c ep m
 gin : ∀ k ∈ zaj m.Gl, inR c k /\ serOk k
 lin : ∀ k ∈ zam m.L, serOk k
 held : heldL m.L <= nn
section
variable {c : Cf} {ep : Int} {m : MS} {nn : Nat}
theorem MOk.unt_pos (h : MOk c ep m) {t : Tok} {g : Lse} (hg : zbm m.QL t = some g) : untM m.QL t = g.til /\ 0 < g.til := by
 have h1 := (h.leas _ (zat hg)).til
 have h2 := h.now
 refine ⟨by unfold untM; rw [hg], by dsimp only at h1; omega⟩
theorem MOk.unt_none {t : Tok} (hg : zbm m.QL t = none) : untM m.QL t = 0 := by unfold untM; rw [hg]
def cutU (n : Int) (u : Int) : Int := if u <= n then 0 else u
theorem SOk.tick (hc : c.ok) (hf : c.fits) (h : SOk c ep m nn) {n : Int} (hn : 1 <= n) (hnow : m.now + n <= 100000) {TL1 TL' : List (Jk × Tsk)} {QL1 : List (Tok × Lse)} (he : Exps (m.now + n) m.TL m.QL TL1 QL1) (hq : ∀ p ∈ QL1, m.now + n < p.2.til)
  (hp : zev c { m with now := m.now + n, TL := TL1, QL := QL1 } TL') :
  SOk c ep { m with now := m.now + n, TL := TL', QL := QL1 } nn /\ ∀ k, untL ep QL1 k = (untL ep m.QL k).map (cutU (m.now + n)) := by
 have h1 := h.ok.exps (n' := m.now + n) ⟨by omega, hnow⟩ he hq
 obtain ⟨h2, _, _⟩ := MOk.post hc hf h1 hp
 refine ⟨⟨h2, h.gin, h.lin, h.held⟩, fun k => ?_⟩
 obtain ⟨_, _, i3, _, i5, i6, _, _⟩ := exps_ok (ep := ep) (c := c) (L := m.L) (num := m.num) (show m.now <= m.now + n by omega) h.ok.tasks h.ok.nt h.ok.leas h.ok.nq h.ok.jobs he
 have hu : ∀ t, untM QL1 t = cutU (m.now + n) (untM m.QL t) := fun t => by
  have hnow0 := h.ok.now
  unfold cutU
  cases hg : zbm m.QL t with
  | none =>
   have : zbm QL1 t = none := by
    cases hg1 : zbm QL1 t with
    | none => rfl
    | some g => exact absurd (zcg h.ok.nq (i5 _ (zat hg1))) (by rw [hg]; simp)
   rw [MOk.unt_none hg, show untM QL1 t = 0 from by unfold untM; rw [this]]; split <;> rfl
  | some g =>
   rw [(h.ok.unt_pos hg).1]
   by_cases hl : g.til <= m.now + n
   ·rw [if_pos hl]
    have : zbm QL1 t = none := by
     cases hg1 : zbm QL1 t with
     | none => rfl
     | some g1 =>
      have a1 := zcg h.ok.nq (i5 _ (zat hg1))
      rw [hg] at a1; injection a1 with a1
      have a2 := hq _ (zat hg1)
      rw [<- a1] at a2
      dsimp only at a2; omega
    unfold untM; rw [this]
   ·rw [if_neg hl]
    have := zcg i3 (i6 _ (zat hg) (by dsimp only; omega))
    unfold untM; rw [this]
 unfold untL
 rw [List.map_map]
 exact List.map_congr_left (fun j _ => hu _)
theorem SOk.take (hc : c.ok) (h : SOk c ep m nn) {p : Jk × Tsk} (hp : p ∈ m.TL) (hr : p.2.rest <= m.now) (hl : leasedB m.QL p.2.key = false) (slot : Int) :
  SOk c ep { m with num := m.num + 1, QL := zer m.QL ⟨ep, m.num + 1⟩ ⟨p.2.kd, p.2.s, slot, m.now + c.le⟩ } nn := by
 have h1 := (h.ok.picked hc (k := p.1) (x := p.2) (zcg h.ok.nt hp) hr hl slot).1
 exact ⟨h1, h.gin, h.lin, h.held⟩
theorem SOk.fail (h : SOk c ep m nn) {t : Tok} {g : Lse} {x : Tsk} (hg : zbm m.QL t = some g) (hx : zbm m.TL g.job = some x) :
  SOk c ep { m with TL := zer m.TL g.job (x.failed m.now), QL := zcj m.QL t } nn := ⟨h.ok.failed hg hx, h.gin, h.lin, h.held⟩
theorem SOk.job (h : SOk c ep m nn) (hc : c.ok) {t : Tok} {g : Lse} (hg : zbm m.QL t = some g) : ∃ x, zbm m.TL g.job = some x /\ g.job.wf /\ inR c x.s /\ (x.rl = true -> ∃ k : Nat, x.s.t = k) /\ 0 <= x.tries /\ x.tries <= 1000000 := by
 obtain ⟨x, hx, hr⟩ := (h.ok.leas _ (zat hg)).job
 have hm := zat hx
 have h1 := h.ok.tasks _ hm
 have hin := h.ok.mem_inR h1.mem
 refine ⟨x, hx, h.ok.wfk _ hm, hin, fun e => ?_, ?_⟩
 ·have h2 := h1.roll e
  have hs := zbf h1.mem
  refine ⟨x.s.t.toNat, ?_⟩
  have h3 : -1 <= x.s.t := hin.2.1
  have h4 : x.s.t ≠ -1 := fun e4 => by
   have := (h.ok.seg.raw _ hs e4).1
   dsimp only at this h2; omega
  omega
 ·have h2 := h1.tries
  have := h.ok.now
  dsimp only at h2; omega
theorem held1_nonneg (h : SegOk c m.now m.L m.Gl) {s : Sg} (hs : s ∈ zam m.L) : 0 <= heldV1 (stL m.L s) := by
 have hm := zbf hs
 unfold heldV1
 split
 ·rename_i h1; have := h.held1 _ hm h1; dsimp only at this; omega
 ·exact Int.le_refl _
theorem SOk.roll (hc : c.ok) (hf : c.fits) (h : SOk c ep m nn) {t : Tok} {g : Lse} {s : Sg} {since tries rest : Int} (hg : zbm m.QL t = some g) (hx : zbm m.TL g.job = some ⟨true, s, since, tries, rest⟩) (cl : Cl) {TL' : List (Jk × Tsk)}
  (hp : zev c { m with L := putL m.L s ⟨3, cl⟩, Gl := m.Gl, TL := zcj m.TL g.job, QL := zcj m.QL t } TL') :
  SOk c ep { m with L := putL m.L s ⟨3, cl⟩, Gl := m.Gl, TL := TL', QL := zcj m.QL t } nn /\ zcv (putL m.L s ⟨3, cl⟩) 2 = zcv m.L 2 - 1 := by
 obtain ⟨h1, h2, h3, h4⟩ := h.ok.rolled hg hx rfl cl
 dsimp only at h1 h2 h3 h4
 have h5 := (MOk.post hc hf h1 hp).1
 refine ⟨⟨h5, h.gin, fun k hk => ?_, ?_⟩, ?_⟩
 ·rcases zcw.1 hk with hk | rfl
  ·exact h.lin k hk
  ·exact h.lin _ h4
 ·have := h2 heldV1
  have h6 := h.held
  have e1 : heldV1 (stL m.L s) = 0 := by unfold heldV1; rw [if_neg (by omega)]
  have e2 : heldV1 ⟨3, cl⟩ = 0 := by simp [heldV1]
  rw [e1, e2] at this
  unfold heldL at *
  show zcx ((putL m.L s ⟨3, cl⟩).map (fun p => heldV1 p.2)) <= _
  omega
 ·have := h2 (isSt 2)
  have e1 : isSt 2 (stL m.L s) = 1 := by unfold isSt; rw [if_pos h3]
  have e2 : isSt 2 ⟨3, cl⟩ = 0 := by simp [isSt]
  rw [e1, e2] at this
  unfold zcv
  omega
theorem SOk.reclaim (hc : c.ok) (hf : c.fits) (h : SOk c ep m nn) {t : Tok} {g : Lse} {s : Sg} {since tries rest : Int} (hg : zbm m.QL t = some g) (hx : zbm m.TL g.job = some ⟨false, s, since, tries, rest⟩) {TL' : List (Jk × Tsk)}
  (hp : zev c { m with L := zcj m.L s, Gl := zer m.Gl s (), TL := zcj m.TL g.job, QL := zcj m.QL t } TL') :
  SOk c ep { m with L := zcj m.L s, Gl := zer m.Gl s (), TL := TL', QL := zcj m.QL t } nn /\ (zer m.Gl s ()).length = m.Gl.length + 1 := by
 obtain ⟨h1, h2, h3, h4, h5⟩ := h.ok.reclaimed hg hx rfl
 dsimp only at h1 h2 h3 h4 h5
 have h6 := (MOk.post hc hf h1 hp).1
 refine ⟨⟨h6, fun k hk => ?_, fun k hk => ?_, ?_⟩, h5⟩
 ·rcases zbw.1 hk with hk | rfl
  ·exact h.gin k hk
  ·exact ⟨h.ok.mem_inR h4, h.lin _ h4⟩
 ·obtain ⟨p, hp, rfl⟩ := List.mem_map.1 (show k ∈ (zcj m.L s).map (·.1) from hk)
  exact h.lin _ (List.mem_map.2 ⟨p, (zbh.1 hp).1, rfl⟩)
 ·have := h2 heldV1
  have h7 := h.held
  have h8 := held1_nonneg h.ok.seg h4
  unfold heldL at *
  show zcx ((zcj m.L s).map (fun p => heldV1 p.2)) <= _
  omega
theorem addL_ser {x : Nm} (hx : 0 <= x.ser /\ x.ser < 4) {L : LV} (h : ∀ k ∈ zam L, serOk k) : ∀ k ∈ zam (addL c L x), serOk k := fun k hk => by
 obtain ⟨p, hp, rfl⟩ := List.mem_map.1 (show k ∈ (addL c L x).map (·.1) from hk)
 rcases addTo_mem x c.n _ hp with hp | ⟨j, h1, rfl, h3⟩
 ·rcases zde hp with rfl | ⟨hp, _⟩
  ·exact hx
  ·exact h _ (List.mem_map.2 ⟨p, hp, rfl⟩)
 ·exact hx
theorem SOk.ingest (hc : c.ok) (hf : c.fits) (h : SOk c ep m nn) {x : Nm} (hs : 0 <= x.ser /\ x.ser < 4) (hx : 0 <= x.tm /\ x.tm <= m.now) (hl : m.now - c.la <= x.tm) (hv : -2147483648 <= x.val /\ x.val <= 2147483647) (hu : zby m.L + (1 + 2 * zeq c m.L x c.n) <= c.qu) :
  SOk c ep { m with L := addL c m.L x } (nn + 1) /\ zby (addL c m.L x) = zby m.L + 1 + 2 * zeq c m.L x c.n := by
 refine ⟨⟨h.ok.added hc hf hs hx hl hv (by omega), h.gin, addL_ser hs h.lin, ?_⟩, used_addM h.ok.seg hc x⟩
 have h1 := held_addM h.ok.seg hc x
 have h2 := h.held
 show heldL (addL c m.L x) <= ((nn + 1 : Nat) : Int)
 omega
theorem SOk.new (hc : c.ok) : SOk c ep ⟨0, [], [], 0, [], []⟩ 0 := by
 have hq := hc.qu
 refine ⟨⟨by dsimp only; omega, ⟨by simp, by simp [zam], by simp, by simp, by simp, by simp [zaj], by simp, by simp [zaj], by simp, ?_⟩, by simp, by simp [zaj], by simp, by simp [zaj], by simp, by dsimp only; omega⟩, by simp [zaj], by simp [zam], ?_⟩
 ·show zby [] <= c.qu
  simp [zby, zcx]; omega
 ·simp [heldL, zcx]
end
end Go.Proofs.YtpbimdkclnekeaaGreat

namespace Go.Proofs.YtpbimdkclnekeaaGreat
open Go.RowKit Go.Maps Go.Shelf
open Go.ChangeMaps (setBlock)
set_option linter.unusedVariables false
def tightB (u q : Int) : Bool := decide (3 * q < 4 * u)
set_option maxRecDepth 20000 in
set_option maxHeartbeats 1000000 in
theorem tightM_any {w : World} {i : Ids} {c : Cf} {ep : Int} {m : MS} (h : zbb w i c ep m) (hc : c.ok) (hu : 0 <= zby m.L /\ zby m.L <= 1000) :
  Calls Tryz.prog 35 #[.pointer (some ⟨i.x, 0, none⟩)] w fun e w' => e = .returned (.bool (tightB (zby m.L) c.qu)) /\ Below w.heap.size w w' := by
 obtain ⟨a, cap, htv, hts⟩ := h.ts
 obtain ⟨c0, c1, c2, c3, c4, c5, c6, -, -, c9, -⟩ := h.cells
 rw [htv] at c6
 have hxl := h.lt
 obtain ⟨hq1, hq2⟩ := hc.qu
 have HU := fun W hW => zab (pused_any ((h.later (w' := W) hW).set) (by unfold i64B; omega))
 have HQ := fun W => zab (lquota_any c a cap W)
 obtain ⟨hu1, hu2⟩ := hu
 unfold tightB
 generalize zby m.L = U at *
 clear h hts
 go_enter Tryz.func35, Tryz.ntmps35
 go_wp2_with fail
 have hne : Nonempty (zaf w.heap.size w) := zaf.some _ _
 have hlc := fun (u : zaf w.heap.size w) b o h => u.cell b o h
 refine zad w.heap.size (by kernel_rfl) (by kernel_rfl) ?_
 repeat (go_big_quiet_step (first
  | (go_at_call 33; exact Calls.later (Nat.le_refl _) (ud (HU _ (Subtype.property _))))
  | (go_at_call 75; exact Calls.later (Nat.le_refl _) (ud (HQ _)))))
 refine wpQuiet_nil ?_
 rintro ⟨w1, hb1⟩
 clear hlc hne
 dsimp only
 go_wp2_with fail
 go_ret
 exact ⟨rfl, hb1⟩
end Go.Proofs.YtpbimdkclnekeaaGreat
