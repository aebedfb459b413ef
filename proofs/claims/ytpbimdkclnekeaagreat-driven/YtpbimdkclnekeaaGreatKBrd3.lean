import Derived.Test.YtpbimdkclnekeaaGreatKZet7
import Derived.Test.YtpbimdkclnekeaaGreatKItr1

namespace Go.Proofs.YtpbimdkclnekeaaGreat
open Value (int)
open IntKind (i64)
open Go.RowKit Go.Maps Go.Shelf
open Go.ChangeMaps (setBlock)
set_option linter.unusedVariables false
theorem del_tsk {X : World} {tb : Nat} {TL : List (Jk × Tsk)} (h : zbs zcr X tb TL) {k : Jk} (hk : k.wf) (ty : TypeId) :
  ∃ o, (Builtin.delete_ #[154, 147] ty #[.map (some tb), .agg #[int i64 k.kd, int i64 k.s.t, int i64 k.s.ser, int i64 k.s.win]]).run Tryz.prog X = .ok (.tuple #[]) (setBlock X tb o) /\ zbs zcr (setBlock X tb o) tb (zby TL k) /\ zaj (fun k => k = tb) X (setBlock X tb o) := by
 obtain ⟨es, cl, hb, he⟩ := h
 obtain ⟨es', h1, h2, h3⟩ := run_delM zfe hb he hk ty
 exact ⟨.map es' cl, h1, ⟨es', cl, zcv (zaa hb) _, h2⟩, zdr _⟩
set_option maxRecDepth 8000 in
set_option maxHeartbeats 4000000 in
theorem done_any {w : World} {b : Nat} {c : Cf} {tv : Value} {ep num : Int} {tb qb : Nat} {TL : List (Jk × Tsk)} {QL : List (Tok × Lse)} (h : zav w b c tv ep num tb qb TL QL) (t : Tok) (ht : t.wf) {g : Lse} (hg : zbq QL t = some g) (hkw : (⟨g.kd, g.s⟩ : Jk).wf) :
  Calls Tryz.prog 43 #[.pointer (some ⟨b, 0, none⟩), .agg #[int i64 t.ep, int i64 t.num]] w fun e w' => e = .returned (.tuple #[]) /\ zav w' b c tv ep num tb qb (zby TL ⟨g.kd, g.s⟩) (zby QL t) /\ zaj (fun k => k = tb \/ k = qb) w w' := by
 have hbl := h.lt
 have y0 := zag w (.cells #[int i64 t.ep, int i64 t.num] 49)
 have yz := zbm w (.cells #[int i64 t.ep, int i64 t.num] 49)
 have hb0 : Below w.heap.size w (w.alloc (.cells #[int i64 t.ep, int i64 t.num] 49)) := (Below.refl _ _).alloc (Nat.le_refl _) _
 have k0 : (w.alloc (.cells #[int i64 t.ep, int i64 t.num] 49)).cell? ⟨w.heap.size, 0, none⟩ = some (int i64 t.ep) := by rw [zab y0]; rfl
 have k1 : (w.alloc (.cells #[int i64 t.ep, int i64 t.num] 49)).cell? ⟨w.heap.size, 1, none⟩ = some (int i64 t.num) := by rw [zab y0]; rfl
 have x9 := (h.later hb0).cell9
 have x10 := (h.later hb0).cell10
 have g0 := look_lse ((h.later hb0).leases) ht hg
 have g1 := look_lse ((h.later hb0.drew).leases) ht hg
 have fl := fld_lse g
 have hkz : w.heap.size < (w.alloc (.cells #[int i64 t.ep, int i64 t.num] 49)).heap.size := by rw [yz]; omega
 have hblX : b < (w.alloc (.cells #[int i64 t.ep, int i64 t.num] 49)).heap.size := by rw [yz]; omega
 obtain ⟨o, hdel, hm, hk⟩ := del_tsk (X := (w.alloc (.cells #[int i64 t.ep, int i64 t.num] 49)).drew) (k := ⟨g.kd, g.s⟩) ((h.later hb0.drew).tasks) hkw 0
 dsimp only at hdel
 have hput := (h.later hb0.drew).putTasks hm hk
 have hyM := hk.heap (k := w.heap.size) (show (w.alloc (.cells #[int i64 t.ep, int i64 t.num] 49)).drew.heap[w.heap.size]? = _ from y0) (fun e => by have := h.foot_lt tb (.inr (.inl rfl)); omega)
 have HH := zac h
 have HB0 := zac hb0
 have HT := zac ht
 have HP := zac hput
 have HK := zac hk
 have HYM := zac hyM
 clear h y0 yz hb0 hkw hg ht hm hput hk hyM
 go_enter Tryz.func43, Tryz.ntmps43
 go_wp2_with fail
 generalize (w.alloc (.cells #[int i64 t.ep, int i64 t.num] 49)) = X at *
 go_region
 go_wp2_with fail
 generalize setBlock X.drew tb o = M at *
 have m10 := (ud HP).cell10
 have tm0 : M.cell? ⟨w.heap.size, 0, none⟩ = some (int i64 t.ep) := by rw [zab (ud HYM)]; rfl
 have tm1 : M.cell? ⟨w.heap.size, 1, none⟩ = some (int i64 t.num) := by rw [zab (ud HYM)]; rfl
 have hlM := zaa (ud HYM)
 have hbM := (ud HP).lt
 obtain ⟨o3, hdel3, hm3, hk3⟩ := del_lse (X := M.drew) (ud HP).leases (ud HT) 0
 have HM3 := zac hm3
 have HK3 := zac hk3
 clear g0 g1 fl k0 k1 x9 x10 hdel hm3 hk3
 go_region
 go_wp2_with fail
 go_end0
 have hP := ud HP
 have hk3 := ud HK3
 have hkM : zaj (fun k => k = tb \/ k = qb) w M := (zaj.of_below (f := fun k => k = tb \/ k = qb) (ud HB0).drew).trans (ud HK) (fun _ _ e => .inl e)
 refine ⟨rfl, ⟨hk3.heap hP.head (fun e => hP.qb_ne e.symm), (hP.tasks.later (w' := M.drew) (Below.refl _ _).drew).kept hk3 (fun e => hP.apart e), ud HM3, hP.apart⟩, (hkM.drew).trans hk3 (fun _ _ e => .inr e)⟩
def jobV (o : Option Tsk) : Value := match o with
 | none => .nilIface
 | some x => .iface x.jt (.agg #[int i64 x.s.t, int i64 x.s.ser, int i64 x.s.win])
theorem fld_tsk (o : Option Tsk) (W : World) : (Instr.field 162 (lookT o) 0).run Tryz.prog W = .ok (jobV o) W := by
 cases o with
 | none => kernel_rfl
 | some x => kernel_rfl
end Go.Proofs.YtpbimdkclnekeaaGreat

namespace Go.Proofs.YtpbimdkclnekeaaGreat
open Value (int)
open IntKind (i64)
open Go.RowKit Go.Maps Go.Shelf
set_option linter.unusedVariables false
def zeh (o : Option Lse) : Lse := o.getD ⟨0, ⟨0, 0, 0⟩, 0, 0⟩
theorem look_lse2 {X : World} {qb : Nat} {QL : List (Tok × Lse)} (h : zbs zch X qb QL) {t : Tok} (ht : t.wf) : (Instr.lookup 153 (.map (some qb)) (.agg #[int i64 t.ep, int i64 t.num]) true).run Tryz.prog X = .ok (.tuple #[.agg #[int i64 (zeh (zbq QL t)).kd, int i64 (zeh (zbq QL t)).s.t, int i64 (zeh (zbq QL t)).s.ser, int i64 (zeh (zbq QL t)).s.win, int i64 (zeh (zbq QL t)).slot, int i64 (zeh (zbq QL t)).til], .bool (zbq QL t).isSome]) X := by
 have h1 := run_lookM zfa true h ht
 cases hg : zbq QL t with
 | none => rw [hg] at h1; exact h1
 | some g => rw [hg] at h1; exact h1
theorem look_tskT {X : World} {tb : Nat} {TL : List (Jk × Tsk)} (h : zbs zcr X tb TL) {k : Jk} (hk : k.wf) : (Instr.lookup 154 (.map (some tb)) (.agg #[int i64 k.kd, int i64 k.s.t, int i64 k.s.ser, int i64 k.s.win]) false).run Tryz.prog X = .ok (lookT (zbq TL k)) X := by
 have h1 := run_lookM zfe false h hk
 cases hg : zbq TL k with
 | none => rw [hg] at h1; exact h1
 | some g => rw [hg] at h1; exact h1
set_option maxRecDepth 8000 in
set_option maxHeartbeats 4000000 in
theorem leasedT_any {w : World} {b : Nat} {c : Cf} {tv : Value} {ep num : Int} {tb qb : Nat} {TL : List (Jk × Tsk)} {QL : List (Tok × Lse)} (h : zav w b c tv ep num tb qb TL QL) (t : Tok) (ht : t.wf) (hkw : (⟨(zeh (zbq QL t)).kd, (zeh (zbq QL t)).s⟩ : Jk).wf) :
  Calls Tryz.prog 41 #[.pointer (some ⟨b, 0, none⟩), .agg #[int i64 t.ep, int i64 t.num]] w fun e w' => e = .returned (.tuple #[jobV (zbq TL ⟨(zeh (zbq QL t)).kd, (zeh (zbq QL t)).s⟩), .bool (zbq QL t).isSome]) /\ Below w.heap.size w w' := by
 have hbl := h.lt
 have y0 := zag w (.cells #[int i64 t.ep, int i64 t.num] 49)
 have yz := zbm w (.cells #[int i64 t.ep, int i64 t.num] 49)
 have hb0 : Below w.heap.size w (w.alloc (.cells #[int i64 t.ep, int i64 t.num] 49)) := (Below.refl _ _).alloc (Nat.le_refl _) _
 have k0 : (w.alloc (.cells #[int i64 t.ep, int i64 t.num] 49)).cell? ⟨w.heap.size, 0, none⟩ = some (int i64 t.ep) := by rw [zab y0]; rfl
 have k1 : (w.alloc (.cells #[int i64 t.ep, int i64 t.num] 49)).cell? ⟨w.heap.size, 1, none⟩ = some (int i64 t.num) := by rw [zab y0]; rfl
 have x10 := (h.later hb0).cell10
 have HL := fun X hX => look_lse2 (h.leases.later (w' := X) hX) ht
 have HTT := fun X hX => look_tskT (h.tasks.later (w' := X) hX) hkw
 dsimp only at HTT
 obtain ⟨g, hg⟩ : ∃ g, zeh (zbq QL t) = g := ⟨_, rfl⟩
 obtain ⟨ok, hok⟩ : ∃ ok, (zbq QL t).isSome = ok := ⟨_, rfl⟩
 rw [hg] at HTT ⊢
 rw [hok]
 rw [hg, hok] at HL
 obtain ⟨tt, htt⟩ : ∃ tt, zbq TL ⟨g.kd, g.s⟩ = tt := ⟨_, rfl⟩
 rw [htt] at HTT ⊢
 have g0 := HL _ hb0
 have g1 := HL _ hb0.drew
 have g2 := fun o => HL _ (hb0.alloc hb0.size o)
 have g3 := fun o => HL _ (hb0.alloc hb0.size o).drew
 have g4 := fun o => HL _ (hb0.drew.alloc hb0.drew.size o)
 have hkz : w.heap.size < (w.alloc (.cells #[int i64 t.ep, int i64 t.num] 49)).heap.size := by rw [yz]; omega
 have hblX : b < (w.alloc (.cells #[int i64 t.ep, int i64 t.num] 49)).heap.size := by rw [yz]; omega
 have HH := zac h
 have HB0 := zac hb0
 have HT2 := fun X hX => zac (HTT X hX)
 clear h y0 yz hb0 HL ht hkw hg hok htt HTT
 go_enter Tryz.func41, Tryz.ntmps41
 go_wp2_with fail
 generalize (w.alloc (.cells #[int i64 t.ep, int i64 t.num] 49)) = X at *
 go_region
 have hbY : Below X.heap.size X (X.alloc (.cells #[int i64 g.kd, int i64 g.s.t, int i64 g.s.ser, int i64 g.s.win, int i64 g.slot, int i64 g.til] 149)).drew := ((Below.refl _ _).alloc (Nat.le_refl _) _).drew
 have hky : (X.alloc (.cells #[int i64 g.kd, int i64 g.s.t, int i64 g.s.ser, int i64 g.s.win, int i64 g.slot, int i64 g.til] 149)).drew.heap[X.heap.size]? = some (.cells #[int i64 g.kd, int i64 g.s.t, int i64 g.s.ser, int i64 g.s.win, int i64 g.slot, int i64 g.til] 149 (0, 0)) := zag _ _
 generalize (X.alloc (.cells #[int i64 g.kd, int i64 g.s.t, int i64 g.s.ser, int i64 g.s.win, int i64 g.slot, int i64 g.til] 149)).drew = Y at *
 have hwY : Below w.heap.size w Y := (ud HB0).trans (hbY.mono (ud HB0).size)
 have y9 := ((ud HH).later hwY).cell9
 have ky0 : Y.cell? ⟨X.heap.size, 0, none⟩ = some (int i64 g.kd) := by rw [zab hky]; rfl
 have ky1 : Y.cell? ⟨X.heap.size, 1, none⟩ = some (int i64 g.s.t) := by rw [zab hky]; rfl
 have ky2 : Y.cell? ⟨X.heap.size, 2, none⟩ = some (int i64 g.s.ser) := by rw [zab hky]; rfl
 have ky3 : Y.cell? ⟨X.heap.size, 3, none⟩ = some (int i64 g.s.win) := by rw [zab hky]; rfl
 have hly := zaa hky
 have hbYl : b < Y.heap.size := Nat.lt_of_lt_of_le hblX hbY.size
 clear g0 g1 g2 g3 g4 k0 k1 x10
 have g0 := ud (HT2 Y hwY)
 have g1 := ud (HT2 Y.drew hwY.drew)
 have fl := fld_tsk tt
 have HWY := zac hwY
 clear hky hwY hbY HT2
 go_wp2_with fail
 go_region
 go_wp2_with fail
 go_ret2
 exact ⟨rfl, (ud HWY).drew⟩
end Go.Proofs.YtpbimdkclnekeaaGreat

namespace Go.Proofs.YtpbimdkclnekeaaGreat
open Value (int)
open IntKind (i64)
open Go.RowKit Go.Maps Go.Shelf
open Go.ChangeMaps (setBlock)
set_option linter.unusedVariables false
inductive Exps (now : Int) (TL : List (Jk × Tsk)) (QL : List (Tok × Lse)) : List (Jk × Tsk) -> List (Tok × Lse) -> Prop
 | nil : Exps now TL QL TL QL
 | step {T1 : List (Jk × Tsk)} {Q1 : List (Tok × Lse)} {t : Tok} {g : Lse} {x : Tsk} : Exps now TL QL T1 Q1 -> zbq Q1 t = some g -> g.til <= now -> zbq T1 ⟨g.kd, g.s⟩ = some x -> Exps now TL QL (zdz T1 ⟨g.kd, g.s⟩ (x.failed now)) (zby Q1 t)
structure BInv (B : Int) (n : Nat) (TL : List (Jk × Tsk)) (QL : List (Tok × Lse)) : Prop where
 job : ∀ p, p ∈ QL -> ∃ x, zbq TL ⟨p.2.kd, p.2.s⟩ = some x
 tries : ∀ p, p ∈ TL -> 0 <= p.2.tries /\ p.2.tries + QL.length <= B
 wfk : ∀ p, p ∈ TL -> p.1.wf
 len : TL.length <= n
 tn : (zas TL).Nodup
 qn : (zas QL).Nodup
theorem lt_delM {α β : Type} [DecidableEq α] {L : List (α × β)} {a : α} {v : β} (h : (a, v) ∈ L) : (zby L a).length < L.length := by
 unfold zby
 refine Nat.lt_of_le_of_ne (List.length_filter_le _ _) (fun e => ?_)
 have := List.length_filter_eq_length_iff.1 e (a, v) h
 simp at this
theorem BInv.step {B : Int} {n : Nat} {T1 : List (Jk × Tsk)} {Q1 : List (Tok × Lse)} (h : BInv B n T1 Q1) (now : Int) {t : Tok} {g : Lse} {x : Tsk} (hg : zbq Q1 t = some g) (hx : zbq T1 ⟨g.kd, g.s⟩ = some x) : BInv B n (zdz T1 ⟨g.kd, g.s⟩ (x.failed now)) (zby Q1 t) := by
 have hgm := zbj hg
 have hxm := zbj hx
 have hl := lt_delM hgm
 refine ⟨fun p hp => ?_, fun p hp => ?_, fun p hp => ?_, ?_, zec h.tn, zds h.qn⟩
 ·obtain ⟨y, hy⟩ := h.job p (zbw.1 hp).1
  rw [getM_put h.tn]
  split
  ·exact ⟨_, rfl⟩
  ·exact ⟨y, hy⟩
 ·rcases zef hp with rfl | ⟨hp, _⟩
  ·obtain ⟨a, b⟩ := h.tries _ hxm
   dsimp only [Tsk.failed] at a b ⊢
   omega
  ·obtain ⟨a, b⟩ := h.tries _ hp
   omega
 ·rcases zef hp with rfl | ⟨hp, _⟩
  ·exact h.wfk (_, x) hxm
  ·exact h.wfk _ hp
 ·rw [length_putM, if_pos (show (⟨g.kd, g.s⟩ : Jk) ∈ zas T1 from List.mem_map.2 ⟨(_, x), hxm, rfl⟩)]; exact h.len
theorem once_eq {es : Array MapEntry} (h : (es.toList.map (·.born)).Nodup) {a b : MapEntry} (ha : a ∈ es.toList) (hb : b ∈ es.toList) (e : a.born = b.born) : a = b := by
 obtain ⟨i, hi, ei⟩ := List.getElem_of_mem ha
 obtain ⟨j, hj, ej⟩ := List.getElem_of_mem hb
 have h' : es.toList.Pairwise (fun a b => a.born ≠ b.born) := List.pairwise_map.1 h
 rcases Nat.lt_trichotomy i j with hh | hh | hh
 ·have := List.pairwise_iff_getElem.1 h' i j hi hj hh; rw [ei, ej] at this; exact absurd e this
 ·subst hh; rw [ei] at ej; exact ej
 ·have := List.pairwise_iff_getElem.1 h' j i hj hi hh; rw [ei, ej] at this; exact absurd e.symm this
theorem ents_of {es : Array MapEntry} {clock : Nat} {L : List (Tok × Lse)} (h : MEnts zch es clock L) {p : Tok × Lse} (hp : p ∈ L) : ∃ x ∈ es.toList, x.key = zfb p.1 /\ x.val = lseVal p.2 := by
 have h1 : (zch.ke p.1, zch.ve p.2) ∈ es.toList.map (fun e => (e.key, e.val)) := h.kv ▸ List.mem_map.2 ⟨p, hp, rfl⟩
 obtain ⟨x, hx, e⟩ := List.mem_map.1 h1
 injection e with e1 e2
 exact ⟨x, hx, e1, e2⟩
theorem lse_inj {a b : Lse} (h : lseVal a = lseVal b) : a.til = b.til := by
 unfold lseVal at h
 injection h with h
 simp at h
 exact h.2.2.2.2.2
set_option maxRecDepth 8000 in
set_option maxHeartbeats 4000000 in
theorem expire_any {w : World} {b : Nat} {c : Cf} {tv : Value} {ep num : Int} {tb qb : Nat} {TL : List (Jk × Tsk)} {QL : List (Tok × Lse)} (h : zav w b c tv ep num tb qb TL QL) (now : Int) (hnow : 0 <= now /\ now <= 100000) (hI : BInv 1000000 100000 TL QL) :
  Calls Tryz.prog 76 #[.pointer (some ⟨b, 0, none⟩), int i64 now] w fun e w' => e = .returned (.tuple #[]) /\ ∃ TL' QL', zav w' b c tv ep num tb qb TL' QL' /\ zaj (fun k => k = tb \/ k = qb) w w' /\ Exps now TL QL TL' QL' /\ ∀ p ∈ QL', now < p.2.til := by
 obtain ⟨es0, clock, hqe, hqm⟩ := h.leases
 have hbl := h.lt
 have c10 := h.cell10
 have hrange := run_range_map (P := Tryz.prog) w 153 _ _ qb es0 clock Tryz.underlying153 hqe
 have HH := zac h
 have HQM := zac hqm
 have HQE := zac hqe
 clear h hqm
 go_enter Tryz.func76, Tryz.ntmps76
 go_wp2_with fail
 go_loopw [4, 5] (fun _ _ wr => ∃ (seen : Array Nat) (c0 : Nat) (es : Array MapEntry) (T1 : List (Jk × Tsk)) (Q1 : List (Tok × Lse)), wr.heap[w.heap.size]? = some (.mapIter (some qb) clock seen c0) /\ clock <= c0 /\ wr.heap[qb]? = some (.map es clock) /\ MEnts zch es clock Q1 /\ (∀ e ∈ es.toList, e ∈ es0.toList) /\ (∀ e ∈ es.toList, e.born ∈ seen.toList -> ∀ g, e.val = lseVal g -> now < g.til) /\ zav wr b c tv ep num tb qb T1 Q1 /\ zaj (fun k => k = tb \/ k = qb) w wr /\ Exps now TL QL T1 Q1 /\ BInv 1000000 100000 T1 Q1)
  (fun _ _ wr => leftAt es0 w.heap.size wr)
 case atStart =>
  have hb0 : Below w.heap.size w (w.alloc (.mapIter (some qb) clock #[] clock)) := (Below.refl _ _).alloc (Nat.le_refl _) _
  exact ⟨#[], clock, es0, TL, QL, zag _ _, Nat.le_refl _, (hb0.block _ (zaa (ud HQE))).trans (ud HQE), ud HQM, fun _ h => h, by simp, (ud HH).later hb0, zaj.of_below hb0, .nil, hI⟩
 case round =>
  obtain ⟨seen, c0, es, T1, Q1, hr, hc0, hqr, hm1, hin, hsn, hB, hK, hE, hI1⟩ := hrel
  have hrl := zaa hr
  clear hrange c10 hqe
  rcases run_next_at (P := Tryz.prog) wr 0 w.heap.size qb clock c0 seen es clock hr hqr hm1.born hc0 with ⟨hz, hnext⟩ | ⟨e, hel, w1, hw1, hnext⟩
  ·have HP := zac (And.intro hm1 (And.intro hsn (And.intro hB (And.intro hK (And.intro hE hz)))))
   clear hz hm1 hsn hB hK hE hI1 hI hin
   go_wp2_with fail
   go_end0
   obtain ⟨hm1, hsn, hB, hK, hE, hz⟩ := ud HP
   refine ⟨rfl, T1, Q1, hB, hK, hE, fun p hp => ?_⟩
   obtain ⟨x, hx, ek, ev⟩ : ∃ x ∈ es.toList, x.key = zfb p.1 /\ x.val = lseVal p.2 := ents_of hm1 hp
   refine hsn x hx ?_ p.2 ev
   by_cases hs : x.born ∈ seen.toList
   ·exact hs
   ·have : x ∈ (leftOf es seen).toList := zcn.2 ⟨hx, hs⟩
    rw [Array.eq_empty_of_size_eq_zero hz] at this
    simp at this
  ·have HEL := zac hel
   obtain ⟨hee, hns⟩ := zcn.1 hel
   have hr1 : w1.heap[w.heap.size]? = some (.mapIter (some qb) clock seen c0) := by rcases hw1 with rfl | rfl <;> exact hr
   have hq1 : w1.heap[qb]? = some (.map es clock) := by rcases hw1 with rfl | rfl <;> exact hqr
   have hne : qb ≠ w.heap.size := by have := zaa (ud HQE); omega
   obtain ⟨X, hX⟩ : ∃ X, setBlock w1 w.heap.size (.mapIter (some qb) clock (seen.push e.born) clock) = X := ⟨_, rfl⟩
   have hXr : X.heap[w.heap.size]? = some (.mapIter (some qb) clock (seen.push e.born) clock) := by rw [<- hX]; exact zcv (zaa hr1) _
   have hXb : X.heap[qb]? = some (.map es clock) := by rw [<- hX, zcq hne]; exact hq1
   have hkX : zaj (fun k => k = w.heap.size) wr X := by
    rw [<- hX]; rcases hw1 with rfl | rfl
    ·exact zdr _
    ·exact (zaj.refl (fun k => k = w.heap.size) wr).drew.trans (zdr _) (fun _ _ h => h)
   have hBX := hB.kept hkX (fun k hk e => by have := (ud HH).foot_lt k hk; omega)
   have hKX : zaj (fun k => k = tb \/ k = qb) w X := hK.trans hkX (fun i hi e => by omega)
   rw [hX] at hnext
   have hent := run_entry_at (P := Tryz.prog) X w.heap.size qb clock seen es clock e hXr hXb hee hm1.once
   obtain ⟨hdm, hk, hv⟩ := dec_at zfa hm1 hee
   obtain ⟨⟨t, y⟩, hy0⟩ : ∃ y, decE zch Q1 e = y := ⟨_, rfl⟩
   rw [hy0] at hdm hk hv
   have HKV := zac (And.intro hdm (And.intro hk hv))
   have hkey : e.key = zfb t := hk
   have hval : e.val = lseVal y := hv
   unfold zfb at hkey
   unfold lseVal at hval
   rw [hkey, hval] at hnext hent
   have hXl := zaa hXr
   have hxw := hBX.lt
   have HP := zac (And.intro hm1 (And.intro hsn (And.intro hBX (And.intro hKX (And.intro hE (And.intro hI1 (And.intro hin (And.intro hr (And.intro hXr (And.intro hXb hee))))))))))
   have hg0 : zbq Q1 t = some y := zej hm1.nodup hdm
   have HGT := zac hg0
   obtain ⟨x, hx⟩ := hI1.job _ hdm
   have HXT := zac hx
   have hty := hI1.tries _ (zbj hx)
   dsimp only at hx hty
   have HF : ∀ V, Below X.heap.size X V -> Hid (Calls Tryz.prog 45 #[.pointer (some ⟨b, 0, none⟩), .agg #[int i64 t.ep, int i64 t.num], int i64 now] V fun e w' => e = .returned (.tuple #[]) /\ zav w' b c tv ep num tb qb (zdz T1 ⟨y.kd, y.s⟩ (x.failed now)) (zby Q1 t) /\ zaj (fun k => k = tb \/ k = qb) V w' /\ ∃ es', w'.heap[qb]? = some (.map es' clock) /\ MEnts zch es' clock (zby Q1 t) /\ ∀ e, e ∈ es'.toList ↔ e ∈ es.toList /\ e.key ≠ zfb t) := fun V hV =>
    fail_any (hBX.later hV) t (hm1.wf _ hdm) hg0 (hI1.wfk _ (zbj hx)) hx now hnow ⟨hty.1, by omega⟩ hI1.len ((hV.block _ (zaa hXb)).trans hXb) hm1
   clear hm1 hsn hB hK hE hI1 hI hin hr hXr hXb hkX hBX hKX hr1 hq1 hX hw1 hk hv hdm hy0 hel hee hns hkey hval hqr hg0 hx hty
   have hV : Below X.heap.size X ((X.alloc (.cells #[int i64 t.ep, int i64 t.num] 49)).alloc (.cells #[int i64 y.kd, int i64 y.s.t, int i64 y.s.ser, int i64 y.s.win, int i64 y.slot, int i64 y.til] 149)) := ((Below.refl _ _).alloc (Nat.le_refl _) _).alloc ((Below.refl _ _).alloc (Nat.le_refl _) _).size _
   have HV := zac hV
   clear hV
   by_cases htil : y.til <= now
   ·go_wp2_with (first | (go_at_call 45; refine (ud (HF _ (ud HV))).mono ?_; rintro e3 W3 ⟨rfl, h3⟩; have H3 := zac h3; clear h3))
    obtain ⟨hm1, hsn, hBX, hKX, hE, hI1, hin, hr, hXr, hXb, hee⟩ := ud HP
    obtain ⟨hB3, hK3, es3, hq3, hm3, hs3⟩ := ud H3
    obtain ⟨hdm, hek, hev⟩ := ud HKV
    have hV := ud HV
    have hr3 := hK3.heap ((hV.block _ hXl).trans hXr) (fun e => by
     rcases e with e | e
     ·have := (ud HH).foot_lt tb (.inr (.inl rfl)); omega
     ·exact hne e.symm)
    refine ⟨⟨_, _, es3, _, _, hr3, Nat.le_refl _, hq3, hm3, fun a ha => hin a ((hs3 a).1 ha).1, fun a ha hs g hg => ?_, hB3, (kept_below hKX hV).trans hK3 (fun _ _ h => h), .step hE (ud HGT) htil (ud HXT), hI1.step now (ud HGT) (ud HXT)⟩, ?_⟩
    ·obtain ⟨ha1, ha2⟩ := (hs3 a).1 ha
     rw [Array.toList_push, List.mem_append] at hs
     rcases hs with hs | hs
     ·exact hsn a ha1 hs g hg
     ·rw [List.mem_singleton] at hs
      rw [once_eq hm1.once ha1 hee hs] at ha2
      exact absurd hek ha2
    ·rw [zck hr3, zck hr]; exact zfc (zcn.2 ⟨hin e hee, (zcn.1 (ud HEL)).2⟩)
   ·go_wp2_with fail
    obtain ⟨hm1, hsn, hBX, hKX, hE, hI1, hin, hr, hXr, hXb, hee⟩ := ud HP
    obtain ⟨hdm, hek, hev⟩ := ud HKV
    have hV := ud HV
    have hr3 := (hV.block _ hXl).trans hXr
    refine ⟨⟨_, _, es, _, _, hr3, Nat.le_refl _, (hV.block _ (zaa hXb)).trans hXb, hm1, hin, fun a ha hs g hg => ?_, hBX.later hV, kept_below hKX hV, hE, hI1⟩, ?_⟩
    ·rw [Array.toList_push, List.mem_append] at hs
     rcases hs with hs | hs
     ·exact hsn a ha hs g hg
     ·rw [List.mem_singleton] at hs
      rw [once_eq hm1.once ha hee hs] at hg
      have := lse_inj (hg.symm.trans hev)
      dsimp only at this
      omega
    ·rw [zck hr3, zck hr]; exact zfc (zcn.2 ⟨hin e hee, (zcn.1 (ud HEL)).2⟩)
set_option maxRecDepth 20000
theorem part_int (xs : Array Value) (i : Nat) (v : Value) (h : xs[i]? = some v) (w : World) : (part 3 xs i).run Tryz.prog w = .ok v w := by simp [part, h]
theorem eqS1 (d : Nat) (a b c a' b' c' : Int) (w : World) : (Op.equalIn (d + 2) 137 (.agg #[int i64 a, int i64 b, int i64 c]) (.agg #[int i64 a', int i64 b', int i64 c'])).run Tryz.prog w = .ok (a == a' && b == b' && c == c') w := by
 have hf : ∃ f1 f2 f3, (Tryz.prog.fieldsOf 137).toList = [f1, f2, f3] /\ f1.name ≠ "_" /\ f2.name ≠ "_" /\ f3.name ≠ "_" /\ f1.type = 3 /\ f2.type = 3 /\ f3.type = 3 /\ f1.offset = 0 /\ f2.offset = 1 /\ f3.offset = 2 := by
  refine ⟨_, _, _, rfl, ?_⟩
  decide
 obtain ⟨f1, f2, f3, hf, n1, n2, n3, t1, t2, t3, o1, o2, o3⟩ := hf
 rw [run_equalIn_struct w (d + 1) 137 _ _ (by kernel_rfl) (by kernel_rfl), hf]
 simp only [Op.eqFields, n1, n2, n3, t1, t2, t3, o1, o2, o3, ne_eq, not_false_eq_true, if_true, Sem.run_bind, Sem.run_ite, Sem.run_pure,
  part_int #[int i64 a, int i64 b, int i64 c] 0 (int i64 a) rfl, part_int #[int i64 a, int i64 b, int i64 c] 1 (int i64 b) rfl, part_int #[int i64 a, int i64 b, int i64 c] 2 (int i64 c) rfl,
  part_int #[int i64 a', int i64 b', int i64 c'] 0 (int i64 a') rfl, part_int #[int i64 a', int i64 b', int i64 c'] 1 (int i64 b') rfl, part_int #[int i64 a', int i64 b', int i64 c'] 2 (int i64 c') rfl,
  Result.andThen_ok, run_equalIn_int _ _ _ _ _ _ _ Tryz.underlying3]
 cases a == a' <;> cases b == b' <;> cases c == c' <;> rfl
theorem eqJ1 (k a b c k' a' b' c' : Int) (w : World) : (Op.equal 147 (.agg #[int i64 k, int i64 a, int i64 b, int i64 c]) (.agg #[int i64 k', int i64 a', int i64 b', int i64 c'])).run Tryz.prog w = .ok (k == k' && (a == a' && b == b' && c == c')) w := by
 have hf : ∃ f1 f2, (Tryz.prog.fieldsOf 147).toList = [f1, f2] /\ f1.name ≠ "_" /\ f2.name ≠ "_" /\ f1.type = 3 /\ f2.type = 137 /\ f1.offset = 0 /\ f2.offset = 1 := by
  refine ⟨_, _, rfl, ?_⟩
  decide
 obtain ⟨f1, f2, hf, n1, n2, t1, t2, o1, o2⟩ := hf
 have hp : ∀ (k a b c : Int) (w : World), (part 137 #[int i64 k, int i64 a, int i64 b, int i64 c] 1).run Tryz.prog w = .ok (.agg #[int i64 a, int i64 b, int i64 c]) w := fun k a b c w => by kernel_rfl
 show (Op.equalIn (9999 + 1) 147 _ _).run Tryz.prog w = _
 rw [run_equalIn_struct w 9999 147 _ _ (by kernel_rfl) (by kernel_rfl), hf]
 simp only [Op.eqFields, n1, n2, t1, t2, o1, o2, ne_eq, not_false_eq_true, if_true, Sem.run_bind, Sem.run_ite, Sem.run_pure,
  part_int #[int i64 k, int i64 a, int i64 b, int i64 c] 0 (int i64 k) rfl, part_int #[int i64 k', int i64 a', int i64 b', int i64 c'] 0 (int i64 k') rfl, hp,
  Result.andThen_ok, show (9999 : Nat) = 9998 + 1 from rfl, run_equalIn_int _ _ _ _ _ _ _ Tryz.underlying3]
 rw [show (9998 + 1 : Nat) = 9997 + 2 from rfl, eqS1]
 cases k == k' <;> cases (a == a' && b == b' && c == c') <;> rfl
theorem eq_jk2 (a b : Jk) (w : World) : (binOp .eql 147 (.agg #[int i64 a.kd, int i64 a.s.t, int i64 a.s.ser, int i64 a.s.win]) (.agg #[int i64 b.kd, int i64 b.s.t, int i64 b.s.ser, int i64 b.s.win])).run Tryz.prog w = .ok (.bool (decide (a = b))) w := by
 have e1 : binOp .eql 147 (.agg #[int i64 a.kd, int i64 a.s.t, int i64 a.s.ser, int i64 a.s.win]) (.agg #[int i64 b.kd, int i64 b.s.t, int i64 b.s.ser, int i64 b.s.win]) = (Op.equal 147 (.agg #[int i64 a.kd, int i64 a.s.t, int i64 a.s.ser, int i64 a.s.win]) (.agg #[int i64 b.kd, int i64 b.s.t, int i64 b.s.ser, int i64 b.s.win]) >>= fun r => pure (Value.bool r)) := by unfold binOp; rfl
 have hd : (a.kd == b.kd && (a.s.t == b.s.t && a.s.ser == b.s.ser && a.s.win == b.s.win)) = decide (a = b) := by
  obtain ⟨k, ⟨t, s, w⟩⟩ := a
  obtain ⟨k', ⟨t', s', w'⟩⟩ := b
  rw [Bool.eq_iff_iff, decide_eq_true_iff]
  simp [and_assoc]
 rw [e1, Sem.run_bind, eqJ1, hd]
 rfl
def Tsk.kd (x : Tsk) : Int := if x.rl then 1 else 2
def Tsk.key (x : Tsk) : Jk := ⟨x.kd, x.s⟩
theorem keyOf_any (x : Tsk) (w : World) : Calls Tryz.prog 87 #[.iface x.jt (.agg #[int i64 x.s.t, int i64 x.s.ser, int i64 x.s.win])] w fun e w' => e = .returned (.agg #[int i64 x.kd, int i64 x.s.t, int i64 x.s.ser, int i64 x.s.win]) /\ Below w.heap.size w w' := by
 obtain ⟨rl, s, a, b, c⟩ := x
 cases rl with
 | true => exact keyOf_Roll s w
 | false => exact keyOf_Reclaim s w
set_option maxHeartbeats 1000000 in
theorem busy1_any (x : Lse) (hb : Nat) (k : Int) (w : World) (hc : w.cell? ⟨hb, 0, none⟩ = some (int i64 k)) (hl : hb < w.heap.size) : Calls Tryz.prog 80 #[.agg #[int i64 x.kd, int i64 x.s.t, int i64 x.s.ser, int i64 x.s.win, int i64 x.slot, int i64 x.til], .pointer (some ⟨hb, 0, none⟩)] w fun e w' => e = .returned (.bool (x.slot == k)) /\ Below w.heap.size w w' := by
 go_enter Tryz.func80, Tryz.ntmps80
 go_wp2_with fail
 go_ret
 exact ⟨rfl, (Below.refl _ _).alloc (Nat.le_refl _) _⟩
theorem bsen : ∀ args w, (callFunc 80 args).run Tryz.prog w = .ok (.enter 80 args) w := enters_of Tryz.func80 (by kernel_rfl) rfl
theorem any_filter {α : Type} (p : α -> Bool) (xs : List α) : (decide (0 < ((xs.filter p).length : Int))) = xs.any p := by
 rw [Bool.eq_iff_iff, decide_eq_true_iff, List.any_eq_true]
 constructor
 ·intro h
  have h2 : 0 < (xs.filter p).length := by omega
  obtain ⟨a, ha⟩ := List.exists_mem_of_length_pos h2
  exact ⟨a, (List.mem_filter.1 ha).1, (List.mem_filter.1 ha).2⟩
 ·rintro ⟨a, ha, hp⟩
  have := List.length_pos_of_mem (List.mem_filter.2 ⟨ha, hp⟩)
  omega
theorem any_perm {α : Type} (p : α -> Bool) {xs ys : List α} (h : xs.Perm ys) : xs.any p = ys.any p := by
 rw [Bool.eq_iff_iff, List.any_eq_true, List.any_eq_true]
 constructor
 ·rintro ⟨a, ha, hp⟩; exact ⟨a, h.mem_iff.1 ha, hp⟩
 ·rintro ⟨a, ha, hp⟩; exact ⟨a, h.mem_iff.2 ha, hp⟩
theorem any_snd {α β : Type} (p : β -> Bool) {ps L : List (α × β)} (h : ps.Perm L) : (decide (0 < (((ps.map (fun q : α × β => q.2)).filter p).length : Int))) = L.any (fun q => p q.2) := by
 rw [any_filter, <- any_perm (fun q : α × β => p q.2) h]
 induction ps generalizing L with
 | nil => rfl
 | cons a r ih => simp only [List.map_cons, List.any_cons]; rw [ih (L := r) (List.Perm.refl _)]
set_option maxHeartbeats 1000000 in
theorem busy_any {w : World} {b : Nat} {c : Cf} {tv : Value} {ep num : Int} {tb qb : Nat} {TL : List (Jk × Tsk)} {QL : List (Tok × Lse)} (h : zav w b c tv ep num tb qb TL QL) (slot : Int) (hs : QL.length <= 100000) :
  Calls Tryz.prog 38 #[.pointer (some ⟨b, 0, none⟩), int i64 slot] w fun e w' => e = .returned (.bool (QL.any (fun p => p.2.slot == slot))) /\ Below w.heap.size w w' := by
 have hbl := h.lt
 have c10 := h.cell10
 have hb0 : ∀ o, Below w.heap.size w (w.alloc o) := fun o => (Below.refl _ _).alloc (Nat.le_refl _) _
 obtain ⟨y0, y1, hbw, yz⟩ := box2 w (.cells #[int i64 slot] 3) (.cells #[.map (some qb)] 153)
 have HV := zac (it_lse0 qb (w.alloc (.cells #[int i64 slot] 3)))
 have HS := zac (cnt_lse 131 #[.pointer (some ⟨w.heap.size + 1, 0, none⟩)] en_lse 80 #[] #[.pointer (some ⟨w.heap.size, 0, none⟩)] bsen (fun x => x.slot == slot) _
  (fun x W hW => busy1_any x w.heap.size slot W (by rw [zab ((hW.block _ (zaa y0)).trans y0)]; rfl) (Nat.lt_of_lt_of_le (zaa y0) hW.size))
  (it_lse (ex := fun _ => False) (w.heap.size + 1) qb QL _ (fun e => e) (by rw [yz]; omega) (by rw [zab y1]; rfl) (h.leases.later hbw)) (fun xs ⟨ps, hp, e⟩ => by rw [e, List.length_map, hp.length_eq]; omega))
 have HBW := zac hbw
 have c10' := ((hb0 (.cells #[int i64 slot] 3)).cell (p := ⟨b, 10, none⟩) hbl).trans c10
 clear h hs y0 y1 hbw yz
 go_enter Tryz.func38, Tryz.ntmps38
 go_wp2_with fail
 refine (ud HV).mono ?_
 rintro e w1 ⟨rfl, rfl⟩
 go_wp2_with fail
 refine (ud HS).mono ?_
 rintro e w1 ⟨xs, ⟨ps, hp, rfl⟩, rfl, hb1⟩
 have HA := zac (any_snd (fun x : Lse => x.slot == slot) hp)
 clear hp
 go_wp2_with fail
 go_ret
 exact ⟨by rw [<- ud HA]; rfl, (ud HBW).trans (hb1.mono (ud HBW).size)⟩
set_option maxHeartbeats 1000000 in
theorem leased1_any (g : Lse) (hb : Nat) (x : Tsk) (w : World) (hc : w.heap[hb]? = some (.cells #[.iface x.jt (.agg #[int i64 x.s.t, int i64 x.s.ser, int i64 x.s.win]), int i64 x.since, int i64 x.tries, int i64 x.rest] 162 (0, 0))) : Calls Tryz.prog 134 #[.agg #[int i64 g.kd, int i64 g.s.t, int i64 g.s.ser, int i64 g.s.win, int i64 g.slot, int i64 g.til], .pointer (some ⟨hb, 0, none⟩)] w fun e w' => e = .returned (.bool (decide ((⟨g.kd, g.s⟩ : Jk) = x.key))) /\ Below w.heap.size w w' := by
 have hl := zaa hc
 have x0 : w.cell? ⟨hb, 0, none⟩ = some (.iface x.jt (.agg #[int i64 x.s.t, int i64 x.s.ser, int i64 x.s.win])) := by rw [zab hc]; rfl
 have HK := fun W => zac (keyOf_any x W)
 have hba : Below w.heap.size w (w.alloc (.cells #[int i64 g.kd, int i64 g.s.t, int i64 g.s.ser, int i64 g.s.win, int i64 g.slot, int i64 g.til] 149)) := (Below.refl _ _).alloc (Nat.le_refl _) _
 have b1 := zag w (.cells #[int i64 g.kd, int i64 g.s.t, int i64 g.s.ser, int i64 g.s.win, int i64 g.slot, int i64 g.til] 149)
 have bz := zbm w (.cells #[int i64 g.kd, int i64 g.s.t, int i64 g.s.ser, int i64 g.s.win, int i64 g.slot, int i64 g.til] 149)
 have k0 := (hba.cell (p := ⟨hb, 0, none⟩) hl).trans x0
 have g0 : (w.alloc (.cells #[int i64 g.kd, int i64 g.s.t, int i64 g.s.ser, int i64 g.s.win, int i64 g.slot, int i64 g.til] 149)).cell? ⟨w.heap.size, 0, none⟩ = some (int i64 g.kd) := by rw [zab b1]; rfl
 have g1 : (w.alloc (.cells #[int i64 g.kd, int i64 g.s.t, int i64 g.s.ser, int i64 g.s.win, int i64 g.slot, int i64 g.til] 149)).cell? ⟨w.heap.size, 1, none⟩ = some (int i64 g.s.t) := by rw [zab b1]; rfl
 have g2 : (w.alloc (.cells #[int i64 g.kd, int i64 g.s.t, int i64 g.s.ser, int i64 g.s.win, int i64 g.slot, int i64 g.til] 149)).cell? ⟨w.heap.size, 2, none⟩ = some (int i64 g.s.ser) := by rw [zab b1]; rfl
 have g3 : (w.alloc (.cells #[int i64 g.kd, int i64 g.s.t, int i64 g.s.ser, int i64 g.s.win, int i64 g.slot, int i64 g.til] 149)).cell? ⟨w.heap.size, 3, none⟩ = some (int i64 g.s.win) := by rw [zab b1]; rfl
 have he := fun W => eq_jk2 ⟨g.kd, g.s⟩ x.key W
 obtain ⟨d, hd⟩ : ∃ d, decide ((⟨g.kd, g.s⟩ : Jk) = x.key) = d := ⟨_, rfl⟩
 rw [hd]
 simp only [hd] at he
 clear hd
 dsimp only [Tsk.key] at he
 have HBA := zac hba
 have BZ := zac bz
 clear hc b1 bz hba x0
 go_enter Tryz.func134, Tryz.ntmps134
 go_wp2_with fail
 have q4 : w.heap.size < w.heap.size + 1 := by omega
 have q5 : hb < w.heap.size + 1 := by omega
 generalize (w.alloc (.cells #[int i64 g.kd, int i64 g.s.t, int i64 g.s.ser, int i64 g.s.win, int i64 g.slot, int i64 g.til] 149)) = X at *
 generalize hN : w.heap.size + 1 = N at *
 have hne : Nonempty (zbg N X) := zbg.some _ _
 have hlc := fun (u : zbg N X) b o h => u.cell b o h
 have hNX : N <= X.heap.size := by rw [ud BZ]; exact Nat.le_refl _
 have HNX := zac hNX
 have HNL : Hid (w.heap.size <= N) := by show w.heap.size <= N; omega
 clear hNX hN
 refine zak N (by kernel_rfl) (by kernel_rfl) ?_
 repeat (go_big_quiet_step (first
  | (go_at_call 87; exact Calls.later (ud HNX) (ud (HK _)))))
 refine wpQuiet_nil ?_
 rintro ⟨w1, hb1⟩
 clear hlc hne
 dsimp only
 go_wp2_with fail
 go_ret
 exact ⟨rfl, (ud HBA).trans (hb1.mono (ud HNL))⟩
theorem lsen : ∀ args w, (callFunc 134 args).run Tryz.prog w = .ok (.enter 134 args) w := enters_of Tryz.func134 (by kernel_rfl) rfl
def leasedB (QL : List (Tok × Lse)) (k : Jk) : Bool := QL.any (fun p => decide ((⟨p.2.kd, p.2.s⟩ : Jk) = k))
set_option maxHeartbeats 1000000 in
theorem leased_any {w : World} {b : Nat} {c : Cf} {tv : Value} {ep num : Int} {tb qb : Nat} {TL : List (Jk × Tsk)} {QL : List (Tok × Lse)} (h : zav w b c tv ep num tb qb TL QL) (x : Tsk) (hs : QL.length <= 100000) :
  Calls Tryz.prog 84 #[.pointer (some ⟨b, 0, none⟩), .agg #[.iface x.jt (.agg #[int i64 x.s.t, int i64 x.s.ser, int i64 x.s.win]), int i64 x.since, int i64 x.tries, int i64 x.rest]] w fun e w' => e = .returned (.bool (leasedB QL x.key)) /\ Below w.heap.size w w' := by
 have hbl := h.lt
 have c10 := h.cell10
 have hb0 : ∀ o, Below w.heap.size w (w.alloc o) := fun o => (Below.refl _ _).alloc (Nat.le_refl _) _
 obtain ⟨y0, y1, hbw, yz⟩ := box2 w (.cells #[.iface x.jt (.agg #[int i64 x.s.t, int i64 x.s.ser, int i64 x.s.win]), int i64 x.since, int i64 x.tries, int i64 x.rest] 162) (.cells #[.map (some qb)] 153)
 have HV := zac (it_lse0 qb (w.alloc (.cells #[.iface x.jt (.agg #[int i64 x.s.t, int i64 x.s.ser, int i64 x.s.win]), int i64 x.since, int i64 x.tries, int i64 x.rest] 162)))
 have HS := zac (cnt_lse 131 #[.pointer (some ⟨w.heap.size + 1, 0, none⟩)] en_lse 134 #[] #[.pointer (some ⟨w.heap.size, 0, none⟩)] lsen (fun g => decide ((⟨g.kd, g.s⟩ : Jk) = x.key)) _
  (fun g W hW => leased1_any g w.heap.size x W ((hW.block _ (zaa y0)).trans y0))
  (it_lse (ex := fun _ => False) (w.heap.size + 1) qb QL _ (fun e => e) (by rw [yz]; omega) (by rw [zab y1]; rfl) (h.leases.later hbw)) (fun xs ⟨ps, hp, e⟩ => by rw [e, List.length_map, hp.length_eq]; omega))
 have HBW := zac hbw
 have c10' := ((hb0 (.cells #[.iface x.jt (.agg #[int i64 x.s.t, int i64 x.s.ser, int i64 x.s.win]), int i64 x.since, int i64 x.tries, int i64 x.rest] 162)).cell (p := ⟨b, 10, none⟩) hbl).trans c10
 clear h hs y0 y1 hbw yz
 go_enter Tryz.func84, Tryz.ntmps84
 go_wp2_with fail
 refine (ud HV).mono ?_
 rintro e w1 ⟨rfl, rfl⟩
 go_wp2_with fail
 refine (ud HS).mono ?_
 rintro e w1 ⟨xs, ⟨ps, hp, rfl⟩, rfl, hb1⟩
 have HA := zac (any_snd (fun g : Lse => decide ((⟨g.kd, g.s⟩ : Jk) = x.key)) hp)
 clear hp
 go_wp2_with fail
 go_ret
 refine ⟨?_, (ud HBW).trans (hb1.mono (ud HBW).size)⟩
 unfold leasedB
 rw [<- ud HA]; rfl
end Go.Proofs.YtpbimdkclnekeaaGreat

namespace Go.Proofs.YtpbimdkclnekeaaGreat
open Go.RowKit Go.Maps Go.Shelf
set_option linter.unusedVariables false
structure MS where
 now : Int
 L : LV
 Gl : List (Sg × Unit)
 num : Int
 TL : List (Jk × Tsk)
 QL : List (Tok × Lse)
def Lse.job (g : Lse) : Jk := ⟨g.kd, g.s⟩
def Cf.clo (c : Cf) (now : Int) (s : Sg) : Prop := (s.win + 1) * c.width s.t <= now - c.la
structure Cf.fits (c : Cf) : Prop where
 from0 : c.F 0 = -1
 div0 : ∃ q : Int, 1 <= q /\ c.W 0 = c.wi * q
 down : ∀ i : Nat, i < c.n -> -1 <= c.F i /\ c.F i < i
 quot : ∀ i : Nat, i < c.n -> ∃ q : Int, 1 <= q /\ c.W i = c.width (c.F i) * q
theorem Cf.clo_mono {c : Cf} {a b : Int} (h : a <= b) {s : Sg} (hs : c.clo a s) : c.clo b s := by unfold Cf.clo at *; omega
structure TskOk (c : Cf) (now : Int) (L : LV) (p : Jk × Tsk) : Prop where
 key : p.1 = p.2.key
 mem : p.2.s ∈ zaq L
 clo : c.clo now p.2.s
 roll : p.2.rl = true -> (stL L p.2.s).st = 2
 recl : p.2.rl = false -> (stL L p.2.s).st ≠ 2
 since : 0 <= p.2.since /\ p.2.since <= now
 tries : 0 <= p.2.tries /\ p.2.tries <= p.2.rest /\ p.2.rest <= now + 32
structure LseOk (c : Cf) (ep now num : Int) (TL : List (Jk × Tsk)) (q : Tok × Lse) : Prop where
 job : ∃ x, zbq TL q.2.job = some x /\ x.rest <= now
 ep : q.1.ep = ep
 num : 1 <= q.1.num /\ q.1.num <= num
 til : now < q.2.til /\ q.2.til <= now + c.le
structure SegOk (c : Cf) (now : Int) (L : LV) (Gl : List (Sg × Unit)) : Prop where
 inr : ∀ p ∈ L, inR c p.1
 nl : (zaq L).Nodup
 raw : ∀ p ∈ L, p.1.t = -1 -> p.2.st = 1 /\ 1 <= p.2.cl.cnt /\ -(p.2.cl.cnt * 2147483648) <= p.2.cl.sum /\ p.2.cl.sum <= p.2.cl.cnt * 2147483648
 tier : ∀ p ∈ L, 0 <= p.1.t -> p.2.st = 2 \/ p.2.st = 3
 disj : ∀ p ∈ L, p.1 ∉ zas Gl
 ng : (zas Gl).Nodup
 pubc : ∀ p ∈ L, p.2.st = 3 -> c.clo now p.1
 goc : ∀ k ∈ zas Gl, c.clo now k
 above : ∀ p ∈ L, p.1.t = -1 -> (⟨0, p.1.ser, p.1.win * c.wi / c.W 0⟩ : Sg) ∈ zaq L \/ (⟨0, p.1.ser, p.1.win * c.wi / c.W 0⟩ : Sg) ∈ zas Gl
 used : zam L <= c.qu
structure MOk (c : Cf) (ep : Int) (m : MS) : Prop where
 now : 0 <= m.now /\ m.now <= 100000
 seg : SegOk c m.now m.L m.Gl
 tasks : ∀ p ∈ m.TL, TskOk c m.now m.L p
 nt : (zas m.TL).Nodup
 leas : ∀ q ∈ m.QL, LseOk c ep m.now m.num m.TL q
 nq : (zas m.QL).Nodup
 jobs : (m.QL.map (fun q => q.2.job)).Nodup
 num : 0 <= m.num
section
variable {c : Cf} {now : Int} {L : LV} {Gl : List (Sg × Unit)}
theorem SegOk.use {now : Int} (h : SegOk c now L Gl) : ∀ p ∈ L, 1 <= zep p.2 := fun p hp => by
 have hr := h.inr p hp
 by_cases ht : p.1.t = -1
 ·obtain ⟨h1, h2, _⟩ := h.raw p hp ht
  unfold zep; rw [if_pos h1]; exact h2
 ·have := h.tier p hp (by have := hr.2.1; omega)
  unfold zep; rw [if_neg (by omega)]; omega
theorem sumI_ge : ∀ (l : List Int), (∀ x ∈ l, 1 <= x) -> (l.length : Int) <= zdt l
 | [], _ => by simp [zdt]
 | a :: l, h => by
  have h1 := h a (by simp)
  have h2 := sumI_ge l (fun x hx => h x (by simp [hx]))
  simp only [zdt, List.length_cons]; omega
theorem sumI_mem : ∀ (l : List Int) (a : Int), (∀ x ∈ l, 0 <= x) -> a ∈ l -> a <= zdt l
 | [], _, _, h => by simp at h
 | b :: l, a, h, hm => by
  have h1 := h b (by simp)
  have hs : 0 <= zdt l := by
   clear hm h1
   induction l with
   | nil => simp [zdt]
   | cons x l ih =>
    have := h x (by simp)
    have := ih (fun y hy => h y (by simp at hy ⊢; rcases hy with hy | hy <;> simp [hy]))
    simp only [zdt]; omega
  rcases List.mem_cons.1 hm with rfl | hm
  ·simp only [zdt]; omega
  ·have := sumI_mem l a (fun x hx => h x (by simp [hx])) hm
   simp only [zdt]; omega
theorem SegOk.len (h : SegOk c now L Gl) : (L.length : Int) <= zam L := by
 have := sumI_ge (L.map (fun p => zep p.2)) (fun x hx => by obtain ⟨p, hp, rfl⟩ := List.mem_map.1 hx; exact h.use p hp)
 simpa [zam] using this
theorem SegOk.len400 (h : SegOk c now L Gl) (hc : c.ok) : L.length <= 400 := by
 have h1 := h.len; have h2 := h.used; have h3 := hc.qu; omega
theorem SegOk.cnt (h : SegOk c now L Gl) (hc : c.ok) : ∀ p ∈ L, p.1.t = -1 -> p.2.cl.cnt <= 400 := fun p hp ht => by
 obtain ⟨h1, h2, _⟩ := h.raw p hp ht
 have h3 : zep p.2 <= zam L := sumI_mem _ _ (fun x hx => by obtain ⟨q, hq, rfl⟩ := List.mem_map.1 hx; have := h.use q hq; omega) (List.mem_map.2 ⟨p, hp, rfl⟩)
 have h4 : zep p.2 = p.2.cl.cnt := by unfold zep; rw [if_pos h1]
 have h5 := h.used; have h6 := hc.qu; omega
theorem SegOk.u0 (h : SegOk c now L Gl) (hc : c.ok) : 0 <= zam L /\ zam L <= 400 := by
 have h1 := h.len; have h2 := h.used; have h3 := hc.qu; omega
theorem SegOk.st (h : SegOk c now L Gl) : ∀ p ∈ L, p.2.st ≠ 0 := fun p hp => by
 have hr := h.inr p hp
 by_cases ht : p.1.t = -1
 ·obtain ⟨h1, _⟩ := h.raw p hp ht; omega
 ·have := h.tier p hp (by have := hr.2.1; omega); omega
end
theorem nodup_le {α : Type} [DecidableEq α] : ∀ (l m : List α), l.Nodup -> (∀ x ∈ l, x ∈ m) -> l.length <= m.length
 | [], _, _, _ => by simp
 | a :: l, m, hn, hs => by
  have ha := hs a (by simp)
  obtain ⟨h1, h2⟩ := List.nodup_cons.1 hn
  have := nodup_le l (m.erase a) h2 (fun x hx => (List.mem_erase_of_ne (fun e => h1 (by rw [<- e]; exact hx))).2 (hs x (by simp [hx])))
  rw [List.length_erase_of_mem ha] at this
  have hp : 0 < m.length := List.length_pos_of_mem ha
  simp only [List.length_cons]; omega
section
variable {c : Cf} {ep : Int} {m : MS}
theorem MOk.tlen (h : MOk c ep m) : m.TL.length <= 2 * m.L.length := by
 have h1 := nodup_le (zas m.TL) ((zaq m.L).map (fun s => (⟨1, s⟩ : Jk)) ++ (zaq m.L).map (fun s => (⟨2, s⟩ : Jk))) h.nt (fun k hk => by
  obtain ⟨p, hp, rfl⟩ := List.mem_map.1 (show k ∈ m.TL.map (·.1) from hk)
  have ht := h.tasks p hp
  rw [ht.key]
  cases hr : p.2.rl with
  | true => exact List.mem_append_left _ (List.mem_map.2 ⟨p.2.s, ht.mem, by simp [Tsk.key, Tsk.kd, hr]⟩)
  | false => exact List.mem_append_right _ (List.mem_map.2 ⟨p.2.s, ht.mem, by simp [Tsk.key, Tsk.kd, hr]⟩))
 simp [zas, zaq] at h1
 omega
theorem MOk.qlen (h : MOk c ep m) : m.QL.length <= m.TL.length := by
 have h1 := nodup_le (m.QL.map (fun q => q.2.job)) (zas m.TL) h.jobs (fun k hk => by
  obtain ⟨q, hq, rfl⟩ := List.mem_map.1 hk
  obtain ⟨x, hx, _⟩ := (h.leas q hq).job
  exact List.mem_map.2 ⟨_, zbj hx, rfl⟩)
 simpa [zas] using h1
theorem MOk.t800 (h : MOk c ep m) (hc : c.ok) : m.TL.length <= 800 := by have := h.tlen; have := h.seg.len400 hc; omega
theorem MOk.q800 (h : MOk c ep m) (hc : c.ok) : m.QL.length <= 800 := by have := h.t800 hc; have := h.qlen; omega
theorem MOk.mem_inR (h : MOk c ep m) {s : Sg} (hs : s ∈ zaq m.L) : inR c s := by
 obtain ⟨p, hp, rfl⟩ := List.mem_map.1 (show s ∈ m.L.map (·.1) from hs)
 exact h.seg.inr p hp
theorem MOk.wfk (h : MOk c ep m) : ∀ p ∈ m.TL, p.1.wf := fun p hp => by
 have ht := h.tasks p hp
 rw [ht.key]
 refine ⟨?_, (h.mem_inR ht.mem).1⟩
 unfold Tsk.key Tsk.kd zdg
 dsimp only
 split <;> omega
theorem MOk.binv (h : MOk c ep m) (hc : c.ok) : BInv 1000000 100000 m.TL m.QL := by
 have hq := h.q800 hc
 have hn := h.now
 refine ⟨fun p hp => ?_, fun p hp => ?_, h.wfk, by have := h.t800 hc; omega, h.nt, h.nq⟩
 ·obtain ⟨x, hx, _⟩ := (h.leas p hp).job; exact ⟨x, hx⟩
 ·have := (h.tasks p hp).tries; omega
end
theorem getM_putL {L : LV} (hn : (zaq L).Nodup) (s k : Sg) (v : SV) : getL (zeg L s v) k = if k = s then some v else getL L k := getM_put (L := L) hn s v k
theorem stL_put {L : LV} (hn : (zaq L).Nodup) (s k : Sg) (v : SV) : stL (zeg L s v) k = if k = s then v else stL L k := by
 unfold stL; rw [getM_putL hn]; split <;> rfl
theorem stL_of {L : LV} (hn : (zaq L).Nodup) {p : Sg × SV} (hp : p ∈ L) : stL L p.1 = p.2 := by
 unfold stL; rw [show getL L p.1 = some p.2 from zej (L := L) hn hp]; rfl
theorem zcc {L : LV} {s : Sg} (hs : s ∈ zaq L) : (s, stL L s) ∈ L := by
 obtain ⟨v, hv, hm⟩ := getL_of hs
 unfold stL; rw [hv]; exact hm
theorem exps_ok {c : Cf} {ep : Int} {now n' : Int} {L : LV} {num : Int} {TL : List (Jk × Tsk)} {QL : List (Tok × Lse)} (hnow : now <= n')
  (ht : ∀ p ∈ TL, TskOk c now L p) (nt : (zas TL).Nodup) (hl : ∀ q ∈ QL, LseOk c ep now num TL q) (nq : (zas QL).Nodup) (jobs : (QL.map (fun q => q.2.job)).Nodup)
  {T1 : List (Jk × Tsk)} {Q1 : List (Tok × Lse)} (h : Exps n' TL QL T1 Q1) :
  (∀ p ∈ T1, TskOk c n' L p) /\ (zas T1).Nodup /\ (zas Q1).Nodup /\ (Q1.map (fun q => q.2.job)).Nodup /\ (∀ q ∈ Q1, q ∈ QL) /\ (∀ q ∈ QL, n' < q.2.til -> q ∈ Q1) /\ (∀ q ∈ Q1, ∃ x, zbq T1 q.2.job = some x /\ x.rest <= now) /\ (∀ k, k ∈ zas T1 ↔ k ∈ zas TL) := by
 induction h with
 | nil =>
  refine ⟨fun p hp => ?_, nt, nq, jobs, fun q h => h, fun q h _ => h, fun q h => (hl q h).job, fun k => Iff.rfl⟩
  have := ht p hp
  exact ⟨this.key, this.mem, Cf.clo_mono hnow this.clo, this.roll, this.recl, ⟨this.since.1, by have := this.since; omega⟩, by have := this.tries; omega⟩
 | @step T1 Q1 t g x _ hg hgt hx ih =>
  obtain ⟨i1, i2, i3, i4, i5, i6, i7, i8⟩ := ih
  have hgm := zbj hg
  have hxm := zbj hx
  have hjne : ∀ q ∈ zby Q1 t, q.2.job ≠ g.job := fun q hq e => by
   obtain ⟨hq1, hq2⟩ := zbw.1 hq
   have hpw : Q1.Pairwise (fun a b => a.2.job ≠ b.2.job) := List.pairwise_map.1 i4
   obtain ⟨i, hi, ei⟩ := List.getElem_of_mem hq1
   obtain ⟨j, hj, ej⟩ := List.getElem_of_mem hgm
   rcases Nat.lt_trichotomy i j with hh | hh | hh
   ·have := List.pairwise_iff_getElem.1 hpw i j hi hj hh; rw [ei, ej] at this; exact this e
   ·subst hh; rw [ei] at ej; exact hq2 (by rw [ej])
   ·have := List.pairwise_iff_getElem.1 hpw j i hj hi hh; rw [ei, ej] at this; exact this e.symm
  have hxr : x.rest <= now := by
   obtain ⟨y, hy, hr⟩ := i7 _ hgm
   have : y = x := by have := hy.symm.trans hx; injection this
   rw [<- this]; exact hr
  refine ⟨fun p hp => ?_, zec i2, zds i3, ?_, fun q hq => i5 q (zbw.1 hq).1, fun q hq hlt => ?_, fun q hq => ?_, fun k => ?_⟩
  ·rcases zef hp with rfl | ⟨hp, _⟩
   ·have h0 := i1 _ hxm
    have hb := restN_bound (x.tries + 1).toNat
    exact ⟨h0.key, h0.mem, h0.clo, h0.roll, h0.recl, h0.since, by have := h0.tries; simp only [Tsk.failed] at *; omega⟩
   ·exact i1 p hp
  ·unfold zby
   exact i4.sublist (List.Sublist.map _ (List.filter_sublist))
  ·refine zbw.2 ⟨i6 q hq hlt, fun e => ?_⟩
   have h1 := zej i3 (i6 q hq hlt)
   rw [e, hg] at h1; injection h1 with h1; rw [<- h1] at hlt; omega
  ·obtain ⟨y, hy, hr⟩ := i7 q (zbw.1 hq).1
   refine ⟨y, ?_, hr⟩
   rw [getM_put i2, if_neg (show ¬ q.2.job = ⟨g.kd, g.s⟩ from hjne q hq)]; exact hy
  ·rw [zcg, i8 k]
   constructor
   ·rintro (h | rfl)
    ·exact h
    ·exact (i8 _).1 (List.mem_map.2 ⟨_, hxm, rfl⟩)
   ·exact .inl
theorem MOk.exps {c : Cf} {ep : Int} {m : MS} (h : MOk c ep m) {n' : Int} (hn : m.now <= n' /\ n' <= 100000) {TL' : List (Jk × Tsk)} {QL' : List (Tok × Lse)} (he : Exps n' m.TL m.QL TL' QL') (hq : ∀ p ∈ QL', n' < p.2.til) :
  MOk c ep { m with now := n', TL := TL', QL := QL' } := by
 obtain ⟨i1, i2, i3, i4, i5, i6, i7, i8⟩ := exps_ok hn.1 h.tasks h.nt h.leas h.nq h.jobs he
 have hs := h.seg
 refine ⟨⟨by have := h.now; show 0 <= n'; omega, hn.2⟩, ⟨hs.inr, hs.nl, hs.raw, hs.tier, hs.disj, hs.ng, fun p hp h3 => Cf.clo_mono hn.1 (hs.pubc p hp h3), fun k hk => Cf.clo_mono hn.1 (hs.goc k hk), hs.above, hs.used⟩, i1, i2, fun q hq' => ?_, i3, i4, h.num⟩
 have h0 := h.leas q (i5 q hq')
 obtain ⟨x, hx, hr⟩ := i7 q hq'
 exact ⟨⟨x, hx, by show x.rest <= n'; omega⟩, h0.ep, h0.num, hq q hq', by have := h0.til; show q.2.til <= n' + c.le; omega⟩
end Go.Proofs.YtpbimdkclnekeaaGreat

namespace Go.Proofs.YtpbimdkclnekeaaGreat
open Value (int)
open IntKind (i64)
open Go.RowKit Go.Maps Go.Shelf
open Go.ChangeMaps (setBlock)
set_option linter.unusedVariables false
def cmpJ (a b : Int) : Int := if a < b then -1 else if b < a then 1 else 0
theorem isNaN64_any (a : Int) (w : World) : Calls Tryz.prog 177 #[int i64 a] w fun e w' => e = .returned (.bool false) /\ w' = w := by
 have h : (a == a) = true := by simp
 go_enter Tryz.func177, Tryz.ntmps177
 go_wp2_with fail
 go_ret
 exact ⟨by simp, rfl⟩
set_option maxHeartbeats 1000000 in
theorem compare64_any (a b : Int) (w : World) : Calls Tryz.prog 137 #[int i64 a, int i64 b] w fun e w' => e = .returned (int i64 (cmpJ a b)) /\ w' = w := by
 rcases Int.lt_trichotomy a b with h | h | h
 ·rw [show cmpJ a b = -1 from by simp [cmpJ, h]]
  go_enter Tryz.func137, Tryz.ntmps137
  go_wp2_with (go_at_call 177; refine (isNaN64_any _ _).mono ?_; rintro e w1 ⟨rfl, rfl⟩)
  go_ret
  exact ⟨rfl, rfl⟩
 ·rw [show cmpJ a b = 0 from by simp [cmpJ, h]]
  have h1 : ¬ a < b := by omega
  have h2 : ¬ b < a := by omega
  have h3 : decide (a < b) = false := by simpa using h1
  have h4 : decide (b < a) = false := by simpa using h2
  go_enter Tryz.func137, Tryz.ntmps137
  go_wp2_with (go_at_call 177; refine (isNaN64_any _ _).mono ?_; rintro e w1 ⟨rfl, rfl⟩)
  go_ret
  exact ⟨rfl, rfl⟩
 ·have h1 : ¬ a < b := by omega
  rw [show cmpJ a b = 1 from by simp [cmpJ, h, h1]]
  have h3 : decide (a < b) = false := by simpa using h1
  go_enter Tryz.func137, Tryz.ntmps137
  go_wp2_with (go_at_call 177; refine (isNaN64_any _ _).mono ?_; rintro e w1 ⟨rfl, rfl⟩)
  go_ret
  exact ⟨rfl, rfl⟩
def orL : List Int -> Int
 | [] => 0
 | a :: r => if a = 0 then orL r else a
theorem or_step {xs : List Int} {k : Nat} (h : ∀ j, j < k -> xs[j]? = some 0) (hk : k <= xs.length) : orL xs = orL (xs.drop k) := by
 induction k generalizing xs with
 | zero => rfl
 | succ k ih =>
  cases xs with
  | nil => simp at hk
  | cons a r =>
   have h0 := h 0 (by omega)
   simp at h0
   subst h0
   show (if (0 : Int) = 0 then orL r else 0) = orL (r.drop k)
   rw [if_pos rfl]
   exact ih (fun j hj => by have := h (j + 1) (by omega); simpa using this) (by simpa using hk)
set_option maxHeartbeats 1000000 in
theorem or_any (xs : List Int) (hl : xs.length <= 1000) (w : World) (g : Nat) (hg : ∀ (k : Nat) (x : Int), xs[k]? = some x -> w.cell? ⟨g, k, none⟩ = some (int i64 x)) :
  Calls Tryz.prog 138 #[.slice (some ⟨g, 0, none⟩) xs.length xs.length] w fun e w' => e = .returned (int i64 (orL xs)) /\ w' = w := by
 go_enter Tryz.func138, Tryz.ntmps138
 go_wp2_with fail
 go_loopw [5, 8] (fun _ i wr => ∃ k : Nat, k <= xs.length /\ i = int i64 k /\ wr = w /\ ∀ j, j < k -> xs[j]? = some 0) (fun _ i _ => xs.length - (intOf i).toNat)
 case atStart => exact ⟨0, Nat.zero_le _, rfl, rfl, fun j h => absurd h (Nat.not_lt_zero _)⟩
 case round =>
  obtain ⟨k, hk, rfl, rfl, hz⟩ := hrel
  by_cases hlt : k < xs.length
  ·obtain ⟨x, hx⟩ := rget_of_lt hlt
   have hc := hg k x hx
   have hlt' : (k : Int) < xs.length := by omega
   have HX := zac hx
   have HZ := zac hz
   have HG := zac hg
   clear hx hz hg
   by_cases h0 : x = 0
   ·subst h0
    go_wp2_with fail
    go_roundw
    case rel =>
     refine ⟨k + 1, by omega, by simp, trivial, fun j hj => ?_⟩
     by_cases e : j = k
     ·rw [e]; exact ud HX
     ·exact ud HZ j (by omega)
    case measure => simp [intOf]; omega
   ·have h1 : (x == 0) = false := by simpa using h0
    go_wp2_with fail
    go_ret
    refine ⟨?_, rfl⟩
    rw [or_step (ud HZ) (Nat.le_of_lt hlt)]
    obtain ⟨hl, ex⟩ := List.getElem?_eq_some_iff.1 (ud HX)
    rw [List.drop_eq_getElem_cons hl, ex]
    show _ = Ending.returned (int i64 (if x = 0 then _ else x))
    rw [if_neg h0]
    rfl
  ·obtain rfl : k = xs.length := by omega
   have HZ := zac hz
   clear hg hz
   go_wp2_with fail
   go_ret
   refine ⟨?_, rfl⟩
   rw [or_step (ud HZ) (Nat.le_refl _), List.drop_length]
   rfl
end Go.Proofs.YtpbimdkclnekeaaGreat

namespace Go.Proofs.YtpbimdkclnekeaaGreat
open Value (int)
open IntKind (i64)
set_option linter.unusedVariables false
theorem right_ok {c : Cf} (h : zdh c.s c.le c.la c.wi c.ke c.qu c.n c.F c.W c.K = true) : c.ok := by
 unfold zdh at h
 simp only [Bool.and_eq_true, inB_iff, allB_iff] at h
 obtain ⟨⟨⟨⟨⟨⟨⟨⟨h1, h2⟩, h3⟩, h4⟩, h5⟩, h6⟩, h7⟩, h8⟩, h9⟩ := h
 have ht : ∀ i, i < c.n -> (-1 <= c.F i /\ c.F i <= (c.n : Int) - 1) /\ (1 <= c.W i /\ c.W i <= 1000) /\ (0 <= c.K i /\ c.K i <= 1000) := fun i hi => by
  have := h8 i hi
  unfold tierB at this
  simp only [Bool.and_eq_true, inB_iff] at this
  exact ⟨this.1.1, this.1.2, this.2⟩
 exact ⟨by omega, by omega, h4.1, by omega, fun i hi => (ht i hi).2.1, fun i hi => by have := (ht i hi).1; omega, fun i hi => (ht i hi).2.2, h5, h3, h6, h1, h2⟩
structure TiersOk (wi : Int) (k : Nat) (F W K : Nat -> Int) : Prop where
 tF : ∀ i, i < k -> -1 <= F i /\ F i < i
 tW : ∀ i, i < k -> 1 <= W i /\ W i <= 1000
 tQ : ∀ i, i < k -> ∃ q : Int, 1 <= q /\ W i = zbp wi W (F i) * q
 tK : ∀ i, i < k -> 0 <= K i /\ K i <= 1000
def updF (F : Nat -> Int) (k : Nat) (v : Int) : Nat -> Int := fun j => if j = k then v else F j
theorem updF_at (F : Nat -> Int) (k : Nat) (v : Int) : updF F k v k = v := by simp [updF]
theorem updF_ne (F : Nat -> Int) {k j : Nat} (v : Int) (h : j ≠ k) : updF F k v j = F j := by simp [updF, h]
theorem widthOf_upd {wi : Int} {W : Nat -> Int} {k : Nat} {v f : Int} (h1 : -1 <= f) (h2 : f < k) : zbp wi (updF W k v) f = zbp wi W f := by
 unfold zbp
 split
 ·rfl
 ·rw [updF_ne]; omega
theorem TiersOk.none (wi : Int) (F W K : Nat -> Int) : TiersOk wi 0 F W K := ⟨fun i h => by omega, fun i h => by omega, fun i h => by omega, fun i h => by omega⟩
theorem TiersOk.more {wi : Int} {k : Nat} {F W K : Nat -> Int} (h : TiersOk wi k F W K) {f q p : Int} (h1 : -1 <= f) (h2 : f < k) (h3 : 1 <= q) (h4 : 1 <= zbp wi W f * q) (h5 : zbp wi W f * q <= 1000) (h6 : 0 <= p /\ p <= 1000) :
  TiersOk wi (k + 1) (updF F k f) (updF W k (zbp wi W f * q)) (updF K k p) := by
 refine ⟨fun i hi => ?_, fun i hi => ?_, fun i hi => ?_, fun i hi => ?_⟩
 ·by_cases e : i = k
  ·subst e; rw [updF_at]; exact ⟨h1, h2⟩
  ·rw [updF_ne _ _ e]; exact h.tF i (by omega)
 ·by_cases e : i = k
  ·subst e; rw [updF_at]; exact ⟨h4, h5⟩
  ·rw [updF_ne _ _ e]; exact h.tW i (by omega)
 ·by_cases e : i = k
  ·subst e; rw [updF_at, updF_at, widthOf_upd h1 h2]; exact ⟨q, h3, rfl⟩
  ·have hf := h.tF i (by omega)
   rw [updF_ne _ _ e, updF_ne _ _ e, widthOf_upd hf.1 (by omega)]; exact h.tQ i (by omega)
 ·by_cases e : i = k
  ·subst e; rw [updF_at]; exact h6
  ·rw [updF_ne _ _ e]; exact h.tK i (by omega)
theorem TiersOk.width {wi : Int} {k : Nat} {F W K : Nat -> Int} (h : TiersOk wi k F W K) (hw : 1 <= wi /\ wi <= 1000) {f : Int} (h1 : -1 <= f) (h2 : f < k) : 1 <= zbp wi W f /\ zbp wi W f <= 1000 := by
 unfold zbp
 split
 ·exact hw
 ·exact h.tW _ (by omega)
theorem down_of {F : Nat -> Int} {n : Nat} (h : ∀ i, i < n -> -1 <= F i /\ F i < i) : ∀ (k : Nat) (t : Int), 0 <= t -> t < n -> t < k -> down F k t = true
 | 0, t, h0, h1, h2 => by omega
 | k + 1, t, h0, h1, h2 => by
  rw [down]
  have hb := h t.toNat (by omega)
  by_cases e : F t.toNat = -1
  ·simp [e]
  ·rw [down_of h k (F t.toNat) (by omega) (by omega) (by omega)]; simp
theorem right_of {c : Cf} (hs : 1 <= c.s /\ c.s <= 4) (hle : 1 <= c.le /\ c.le <= 100) (hla : 0 <= c.la /\ c.la <= 100) (hwi : 1 <= c.wi /\ c.wi <= 50) (hke : 0 <= c.ke /\ c.ke <= 1000) (hqu : 1 <= c.qu /\ c.qu <= 400) (hn : 1 <= c.n /\ c.n <= 4) (h : TiersOk c.wi c.n c.F c.W c.K) :
  zdh c.s c.le c.la c.wi c.ke c.qu c.n c.F c.W c.K = true /\ c.fits := by
 constructor
 ·unfold zdh
  simp only [Bool.and_eq_true, inB_iff, allB_iff]
  refine ⟨⟨⟨⟨⟨⟨⟨⟨hs, hle⟩, hla⟩, hwi⟩, hke⟩, hqu⟩, by omega⟩, fun i hi => ?_⟩, fun i hi => ?_⟩
  ·unfold tierB
   simp only [Bool.and_eq_true, inB_iff]
   have := h.tF i hi
   exact ⟨⟨by omega, h.tW i hi⟩, h.tK i hi⟩
  ·unfold fitB
   simp only [Bool.and_eq_true, beq_iff_eq]
   obtain ⟨q, _, hq⟩ := h.tQ i hi
   exact ⟨by rw [hq]; exact Int.mul_emod_right _ _, down_of h.tF c.n i (by omega) (by omega) (by omega)⟩
 ·obtain ⟨q, h1, hq⟩ := h.tQ 0 (by omega)
  have h0 := h.tF 0 (by omega)
  have h2 : c.F 0 = -1 := by omega
  exact ⟨h2, ⟨q, h1, by rw [hq, h2]; simp [zbp]⟩, h.tF, h.tQ⟩
theorem row3_more (k : Nat) (F W K : Nat -> Int) (f w p : Int) : row3 (k + 1) (updF F k f) (updF W k w) (updF K k p) = row3 k F W K ++ [int i64 f, int i64 w, int i64 p] := by
 have e : (k + 1) * 3 = k * 3 + 1 + 1 + 1 := by omega
 unfold row3
 rw [e, List.range_succ, List.range_succ, List.range_succ]
 simp only [List.map_append, List.map_cons, List.map_nil, List.append_assoc]
 have h0 : (List.range (k * 3)).map (cell3 (updF F k f) (updF W k w) (updF K k p)) = (List.range (k * 3)).map (cell3 F W K) := by
  apply List.map_congr_left
  intro j hj
  have hj' : j < k * 3 := by simpa using hj
  unfold cell3
  have hne : j / 3 ≠ k := by omega
  simp only [updF_ne _ _ hne]
 rw [h0]
 have d0 : k * 3 / 3 = k := by omega
 have d1 : (k * 3 + 1) / 3 = k := by omega
 have d2 : (k * 3 + 1 + 1) / 3 = k := by omega
 have m0 : k * 3 % 3 = 0 := by omega
 have m1 : (k * 3 + 1) % 3 = 1 := by omega
 have m2 : (k * 3 + 1 + 1) % 3 = 2 := by omega
 unfold cell3
 simp [d0, d1, d2, m0, m1, m2, updF_at]
end Go.Proofs.YtpbimdkclnekeaaGreat

namespace Go.Proofs.YtpbimdkclnekeaaGreat
open Go.RowKit Go.Maps Go.Shelf
set_option linter.unusedVariables false
def postR (now : Int) (TL : List (Jk × Tsk)) (s : Sg) : List (Jk × Tsk) := match zbq TL ⟨1, s⟩ with | some _ => TL | none => zdz TL ⟨1, s⟩ ⟨true, s, now, 0, 0⟩
def postC (now : Int) (TL : List (Jk × Tsk)) (s : Sg) : List (Jk × Tsk) := match zbq TL ⟨2, s⟩ with | some _ => TL | none => zdz TL ⟨2, s⟩ ⟨false, s, now, 0, 0⟩
section
variable {c : Cf} {now : Int} {L : LV}
structure PostOk (c : Cf) (now : Int) (L : LV) (TL T1 : List (Jk × Tsk)) : Prop where
 ok : ∀ p ∈ T1, TskOk c now L p
 nt : (zas T1).Nodup
 old : ∀ k x, zbq TL k = some x -> zbq T1 k = some x
theorem post_put {TL T1 : List (Jk × Tsk)} (h : PostOk c now L TL T1) (hn : 0 <= now) {k : Jk} {x : Tsk} (hk : zbq T1 k = none) (hx : TskOk c now L (k, x)) : PostOk c now L TL (zdz T1 k x) := by
 refine ⟨fun p hp => ?_, zec h.nt, fun j y hj => ?_⟩
 ·rcases zef hp with rfl | ⟨hp, _⟩
  ·exact hx
  ·exact h.ok p hp
 ·have := h.old j y hj
  rw [getM_put h.nt, if_neg (fun e => by rw [e, hk] at this; cases this)]; exact this
theorem postR_ok {TL T1 : List (Jk × Tsk)} (h : PostOk c now L TL T1) (hn : 0 <= now) {s : Sg} (h1 : s ∈ zaq L) (h2 : c.clo now s) (h3 : (stL L s).st = 2) : PostOk c now L TL (postR now T1 s) /\ ∀ k, k ∈ zas (postR now T1 s) ↔ k ∈ zas T1 \/ k = ⟨1, s⟩ := by
 unfold postR
 cases hg : zbq T1 ⟨1, s⟩ with
 | some x => exact ⟨h, fun k => ⟨.inl, fun e => e.elim id (fun e => by rw [e]; exact List.mem_map.2 ⟨_, zbj hg, rfl⟩)⟩⟩
 | none => exact ⟨post_put h hn hg ⟨rfl, h1, h2, fun _ => h3, fun e => by simp at e, ⟨hn, Int.le_refl _⟩, by dsimp only; omega⟩, fun k => zcg⟩
theorem postC_ok {TL T1 : List (Jk × Tsk)} (h : PostOk c now L TL T1) (hn : 0 <= now) {s : Sg} (h1 : s ∈ zaq L) (h2 : c.clo now s) (h3 : (stL L s).st ≠ 2) : PostOk c now L TL (postC now T1 s) /\ ∀ k, k ∈ zas (postC now T1 s) ↔ k ∈ zas T1 \/ k = ⟨2, s⟩ := by
 unfold postC
 cases hg : zbq T1 ⟨2, s⟩ with
 | some x => exact ⟨h, fun k => ⟨.inl, fun e => e.elim id (fun e => by rw [e]; exact List.mem_map.2 ⟨_, zbj hg, rfl⟩)⟩⟩
 | none => exact ⟨post_put h hn hg ⟨rfl, h1, h2, fun e => by simp at e, fun _ => h3, ⟨hn, Int.le_refl _⟩, by dsimp only; omega⟩, fun k => zcg⟩
theorem postRs_ok (hn : 0 <= now) : ∀ (ys : List Sg) {TL T1 : List (Jk × Tsk)}, PostOk c now L TL T1 -> (∀ s ∈ ys, s ∈ zaq L /\ c.clo now s /\ (stL L s).st = 2) -> PostOk c now L TL (ys.foldl (postR now) T1) /\ ∀ k, k ∈ zas (ys.foldl (postR now) T1) ↔ k ∈ zas T1 \/ ∃ s ∈ ys, k = ⟨1, s⟩
 | [], TL, T1, h, _ => ⟨h, fun k => by simp⟩
 | s :: ys, TL, T1, h, hs => by
  obtain ⟨a1, a2, a3⟩ := hs s (by simp)
  obtain ⟨h1, h2⟩ := postR_ok h hn a1 a2 a3
  obtain ⟨h3, h4⟩ := postRs_ok hn ys h1 (fun x hx => hs x (by simp [hx]))
  refine ⟨h3, fun k => ?_⟩
  show k ∈ zas (ys.foldl (postR now) (postR now T1 s)) ↔ _
  rw [h4 k, h2 k]; simp [or_assoc]
theorem postCs_ok (hn : 0 <= now) : ∀ (ys : List Sg) {TL T1 : List (Jk × Tsk)}, PostOk c now L TL T1 -> (∀ s ∈ ys, s ∈ zaq L /\ c.clo now s /\ (stL L s).st ≠ 2) -> PostOk c now L TL (ys.foldl (postC now) T1) /\ ∀ k, k ∈ zas (ys.foldl (postC now) T1) ↔ k ∈ zas T1 \/ ∃ s ∈ ys, k = ⟨2, s⟩
 | [], TL, T1, h, _ => ⟨h, fun k => by simp⟩
 | s :: ys, TL, T1, h, hs => by
  obtain ⟨a1, a2, a3⟩ := hs s (by simp)
  obtain ⟨h1, h2⟩ := postC_ok h hn a1 a2 a3
  obtain ⟨h3, h4⟩ := postCs_ok hn ys h1 (fun x hx => hs x (by simp [hx]))
  refine ⟨h3, fun k => ?_⟩
  show k ∈ zas (ys.foldl (postC now) (postC now T1 s)) ↔ _
  rw [h4 k, h2 k]; simp [or_assoc]
end
theorem clo_raw {c : Cf} (hc : c.ok) (hf : c.fits) {now : Int} {k : Sg} (ht : k.t = -1) (h : c.clo now ⟨0, k.ser, k.win * c.wi / c.W 0⟩) : c.clo now k := by
 obtain ⟨q, hq, hW⟩ := hf.div0
 have hwi := hc.wi1
 have hw0 : c.width 0 = c.W 0 := by unfold Cf.width zbp; rw [if_neg (by omega)]; simp
 have hw1 : c.width (-1) = c.wi := by unfold Cf.width zbp; rw [if_pos rfl]
 unfold Cf.clo at *
 rw [hw0] at h
 rw [ht, hw1]
 have hWp : 0 < c.W 0 := by rw [hW]; exact Int.mul_pos (by omega) (by omega)
 have h1 : k.win * c.wi < (k.win * c.wi / c.W 0 + 1) * c.W 0 := Int.lt_ediv_add_one_mul_self _ hWp
 generalize k.win * c.wi / c.W 0 = a at *
 have h2 : k.win * c.wi < ((a + 1) * q) * c.wi := by
  have e : (a + 1) * c.W 0 = ((a + 1) * q) * c.wi := by rw [hW, Int.mul_comm c.wi q, <- Int.mul_assoc]
  rw [<- e]; exact h1
 have h3 : k.win < (a + 1) * q := Int.lt_of_mul_lt_mul_right h2 (by omega)
 have h4 : (k.win + 1) * c.wi <= ((a + 1) * q) * c.wi := Int.mul_le_mul_of_nonneg_right (by omega) (by omega)
 have e : (a + 1) * c.W 0 = ((a + 1) * q) * c.wi := by rw [hW, Int.mul_comm c.wi q, <- Int.mul_assoc]
 rw [e] at h; omega
theorem recl_clo {c : Cf} (hc : c.ok) (hf : c.fits) {now : Int} {L : LV} {Gl : List (Sg × Unit)} (h : SegOk c now L Gl) {k : Sg} (hk : k ∈ zaq L) (hr : reclB c L now k = true) : c.clo now k /\ (stL L k).st ≠ 2 := by
 have hp := zcc hk
 have hin := h.inr _ hp
 unfold reclB at hr
 simp only [Bool.and_eq_true, Bool.not_eq_true', beq_eq_false_iff_ne, ne_eq, decide_eq_true_eq] at hr
 obtain ⟨⟨h2, h3⟩, h4⟩ := hr
 refine ⟨?_, h2⟩
 by_cases ht : k.t = -1
 ·have hn1 := hc.n1
  have hA : (⟨0, k.ser, k.win * c.wi / c.W 0⟩ : Sg) ∈ hangL c k := by
   have hw1 : c.width k.t = c.wi := by rw [ht]; unfold Cf.width zbp; rw [if_pos rfl]
   unfold hangL aboL
   rw [hw1, List.map_map]
   exact List.mem_map.2 ⟨0, List.mem_filter.2 ⟨by simp; omega, by simp [hf.from0, ht]⟩, by simp⟩
  have hcA : c.clo now ⟨0, k.ser, k.win * c.wi / c.W 0⟩ := by
   rcases h.above _ hp ht with ha | ha
   ·have hAp := zcc ha
    rcases h.tier _ hAp (by simp) with hs | hs
    ·exfalso
     unfold hangsB at h4
     have h5 : ((hangW c k).filter (fun x => (stL L x.1).st == 2)).length = 0 := by
      have := of_decide_eq_true (show decide ((((hangW c k).filter (fun x => (stL L x.1).st == 2)).length : Int) = 0) = true from by simpa using h4)
      omega
     have hm := (hangW_mem hc hin ⟨0, k.ser, k.win * c.wi / c.W 0⟩).2 hA
     obtain ⟨y, hy, ey⟩ := List.mem_map.1 hm
     have : y ∈ (hangW c k).filter (fun x => (stL L x.1).st == 2) := List.mem_filter.2 ⟨hy, by rw [ey]; simpa using hs⟩
     rw [List.eq_nil_of_length_eq_zero h5] at this; simp at this
    ·exact h.pubc _ hAp hs
   ·exact h.goc _ ha
  exact clo_raw hc hf ht hcA
 ·rcases h.tier _ hp (by have h1 : -1 <= k.t := hin.2.1; show 0 <= k.t; omega) with hs | hs
  ·exact absurd hs h2
  ·exact h.pubc _ hp hs
theorem roll_clo {c : Cf} {now : Int} {L : LV} {Bs : List (Sg × Unit)} {k : Sg} (hr : rollB c Bs L now k = true) : c.clo now k /\ (stL L k).st = 2 := by
 unfold rollB at hr
 simp only [Bool.and_eq_true, beq_iff_eq, decide_eq_true_eq] at hr
 exact ⟨hr.2, hr.1.2⟩
structure zey (c : Cf) (m : MS) (TL' : List (Jk × Tsk)) : Prop where
 to : ∃ (Bs : List (Sg × Unit)) (ys1 ys2 : List Sg), (∀ x, x ∈ zas Bs ↔ ∃ k, k ∈ zaq m.L /\ (stL m.L k).st = 2 /\ x ∈ hangL c k) /\ (∀ s, s ∈ ys1 ↔ s ∈ zaq m.L /\ rollB c Bs m.L m.now s = true) /\ (∀ s, s ∈ ys2 ↔ s ∈ zaq m.L /\ reclB c m.L m.now s = true) /\ TL' = ys2.foldl (postC m.now) (ys1.foldl (postR m.now) m.TL)
theorem MOk.post {c : Cf} {ep : Int} {m : MS} (hc : c.ok) (hf : c.fits) (h : MOk c ep m) {TL' : List (Jk × Tsk)} (hp : zey c m TL') :
  MOk c ep { m with TL := TL' } /\ (∀ k, k ∈ zas m.TL -> k ∈ zas TL') /\ (∀ s, s ∈ zaq m.L -> reclB c m.L m.now s = true -> (⟨2, s⟩ : Jk) ∈ zas TL') := by
 obtain ⟨Bs, ys1, ys2, hB, h1, h2, rfl⟩ := hp.to
 have h0 : PostOk c m.now m.L m.TL m.TL := ⟨h.tasks, h.nt, fun _ _ e => e⟩
 obtain ⟨p1, q1⟩ := postRs_ok h.now.1 ys1 h0 (fun s hs => ⟨((h1 s).1 hs).1, roll_clo ((h1 s).1 hs).2⟩)
 obtain ⟨p2, q2⟩ := postCs_ok h.now.1 ys2 p1 (fun s hs => ⟨((h2 s).1 hs).1, recl_clo hc hf h.seg ((h2 s).1 hs).1 ((h2 s).1 hs).2⟩)
 refine ⟨⟨h.now, h.seg, p2.ok, p2.nt, fun q hq => ?_, h.nq, h.jobs, h.num⟩, fun k hk => (q2 k).2 (.inl ((q1 k).2 (.inl hk))), fun s hs hr => (q2 _).2 (.inr ⟨s, (h2 s).2 ⟨hs, hr⟩, rfl⟩)⟩
 have h5 := h.leas q hq
 obtain ⟨x, hx, hr⟩ := h5.job
 exact ⟨⟨x, p2.old _ _ hx, hr⟩, h5.ep, h5.num, h5.til⟩
section
variable {c : Cf} {ep : Int} {m : MS}
theorem job_once {QL : List (Tok × Lse)} (hn : (QL.map (fun q => q.2.job)).Nodup) {p q : Tok × Lse} (hp : p ∈ QL) (hq : q ∈ QL) (e : p.2.job = q.2.job) : p = q := by
 have hpw : QL.Pairwise (fun a b => a.2.job ≠ b.2.job) := List.pairwise_map.1 hn
 obtain ⟨i, hi, ei⟩ := List.getElem_of_mem hp
 obtain ⟨j, hj, ej⟩ := List.getElem_of_mem hq
 rcases Nat.lt_trichotomy i j with hh | hh | hh
 ·have := List.pairwise_iff_getElem.1 hpw i j hi hj hh; rw [ei, ej] at this; exact absurd e this
 ·subst hh; rw [<- ei, ej]
 ·have := List.pairwise_iff_getElem.1 hpw j i hj hi hh; rw [ei, ej] at this; exact absurd e.symm this
theorem jobs_del {QL : List (Tok × Lse)} (hn : (QL.map (fun q => q.2.job)).Nodup) (t : Tok) : ((zby QL t).map (fun q => q.2.job)).Nodup := by
 unfold zby
 exact hn.sublist (List.Sublist.map _ (List.filter_sublist))
theorem job_other {QL : List (Tok × Lse)} (hn : (QL.map (fun q => q.2.job)).Nodup) {t : Tok} {g : Lse} (hg : (t, g) ∈ QL) {q : Tok × Lse} (hq : q ∈ zby QL t) : q.2.job ≠ g.job := fun e => by
 obtain ⟨h1, h2⟩ := zbw.1 hq
 exact h2 (by rw [job_once hn h1 hg e])
theorem MOk.failed (h : MOk c ep m) {t : Tok} {g : Lse} {x : Tsk} (hg : zbq m.QL t = some g) (hx : zbq m.TL g.job = some x) :
  MOk c ep { m with TL := zdz m.TL g.job (x.failed m.now), QL := zby m.QL t } := by
 have hgm := zbj hg
 have hxm := zbj hx
 have hxr : x.rest <= m.now := by
  obtain ⟨y, hy, hr⟩ := (h.leas _ hgm).job
  have : y = x := by have := hy.symm.trans hx; injection this
  rw [<- this]; exact hr
 have hb := restN_bound (x.tries + 1).toNat
 have h0 := h.tasks _ hxm
 refine ⟨h.now, h.seg, fun p hp => ?_, zec h.nt, fun q hq => ?_, zds h.nq, jobs_del h.jobs t, h.num⟩
 ·rcases zef hp with rfl | ⟨hp, _⟩
  ·exact ⟨h0.key, h0.mem, h0.clo, h0.roll, h0.recl, h0.since, by have := h0.tries; simp only [Tsk.failed] at *; omega⟩
  ·exact h.tasks p hp
 ·have h5 := h.leas q (zbw.1 hq).1
  obtain ⟨y, hy, hr⟩ := h5.job
  refine ⟨⟨y, ?_, hr⟩, h5.ep, h5.num, h5.til⟩
  rw [getM_put h.nt, if_neg (job_other h.jobs hgm hq)]; exact hy
theorem MOk.picked (h : MOk c ep m) (hc : c.ok) {k : Jk} {x : Tsk} (hx : zbq m.TL k = some x) (hr : x.rest <= m.now) (hl : leasedB m.QL x.key = false) (slot : Int) :
  MOk c ep { m with num := m.num + 1, QL := zdz m.QL ⟨ep, m.num + 1⟩ ⟨x.kd, x.s, slot, m.now + c.le⟩ } /\ (⟨ep, m.num + 1⟩ : Tok) ∉ zas m.QL /\ (∀ q ∈ m.QL, q.2.job ≠ x.key) := by
 have hnew : (⟨ep, m.num + 1⟩ : Tok) ∉ zas m.QL := fun hm => by
  obtain ⟨q, hq, e⟩ := List.mem_map.1 hm
  have := (h.leas q hq).num
  rw [e] at this; dsimp only at this; omega
 have hno : ∀ q ∈ m.QL, q.2.job ≠ x.key := fun q hq e => by
  unfold leasedB at hl
  rw [List.any_eq_false] at hl
  exact hl q hq (by simpa [Lse.job] using e)
 have hput : zdz m.QL ⟨ep, m.num + 1⟩ ⟨x.kd, x.s, slot, m.now + c.le⟩ = m.QL ++ [(⟨ep, m.num + 1⟩, ⟨x.kd, x.s, slot, m.now + c.le⟩)] := by unfold zdz; rw [if_neg hnew]
 have hk := (h.tasks _ (zbj hx)).key
 have hle := hc.le
 refine ⟨⟨h.now, h.seg, h.tasks, h.nt, fun q hq => ?_, zec h.nq, ?_, by have := h.num; show 0 <= m.num + 1; omega⟩, hnew, hno⟩
 ·rcases zef hq with rfl | ⟨hq, _⟩
  ·refine ⟨⟨x, ?_, hr⟩, rfl, ⟨by have := h.num; show 1 <= m.num + 1; omega, Int.le_refl _⟩, by show m.now < m.now + c.le; omega, Int.le_refl _⟩
   show zbq m.TL x.key = some x
   rw [<- hk]; exact hx
  ·have h5 := h.leas q hq
   exact ⟨h5.job, h5.ep, ⟨h5.num.1, by have := h5.num.2; show q.1.num <= m.num + 1; omega⟩, h5.til⟩
 ·show ((zdz m.QL ⟨ep, m.num + 1⟩ ⟨x.kd, x.s, slot, m.now + c.le⟩).map (fun q => q.2.job)).Nodup
  rw [hput, List.map_append, List.nodup_append]
  refine ⟨h.jobs, by simp, fun a ha b hb => ?_⟩
  obtain ⟨q, hq, rfl⟩ := List.mem_map.1 ha
  simp only [List.map_cons, List.map_nil, List.mem_singleton] at hb
  subst hb
  exact hno q hq
theorem MOk.other_seg (h : MOk c ep m) {k : Jk} {x : Tsk} (hx : zbq m.TL k = some x) {p : Jk × Tsk} (hp : p ∈ zby m.TL k) : p.2.s ≠ x.s := fun e => by
 obtain ⟨hp1, hp2⟩ := zbw.1 hp
 have h1 := h.tasks p hp1
 have h2 := h.tasks _ (zbj hx)
 have hk2 : k = x.key := h2.key
 cases hr : p.2.rl with
 | true =>
  have a := h1.roll hr
  rw [e] at a
  cases hs : x.rl with
  | true => exact hp2 (by rw [h1.key, hk2]; simp [Tsk.key, Tsk.kd, hr, hs, e])
  | false => exact h2.recl hs a
 | false =>
  have a := h1.recl hr
  rw [e] at a
  cases hs : x.rl with
  | true => exact a (h2.roll hs)
  | false => exact hp2 (by rw [h1.key, hk2]; simp [Tsk.key, Tsk.kd, hr, hs, e])
theorem MOk.done_leas (h : MOk c ep m) {t : Tok} {g : Lse} (hg : zbq m.QL t = some g) : ∀ q ∈ zby m.QL t, LseOk c ep m.now m.num (zby m.TL g.job) q := fun q hq => by
 have h5 := h.leas q (zbw.1 hq).1
 obtain ⟨y, hy, hr⟩ := h5.job
 refine ⟨⟨y, ?_, hr⟩, h5.ep, h5.num, h5.til⟩
 rw [getM_del h.nt, if_neg (job_other h.jobs (zbj hg) hq)]; exact hy
theorem sum_put_at {L : LV} (hn : (zaq L).Nodup) {s : Sg} {u v : SV} (hs : (s, u) ∈ L) (f : SV -> Int) : zdt ((zeg L s v).map (fun p => f p.2)) = zdt (L.map (fun p => f p.2)) - f u + f v := by
 unfold zeg
 rw [if_pos (show s ∈ zaq L from List.mem_map.2 ⟨_, hs, rfl⟩)]
 exact sum_put_old f hn hs
theorem sum_del {s : Sg} {u : SV} (f : SV -> Int) : ∀ {L : LV}, (zaq L).Nodup -> (s, u) ∈ L -> zdt ((zby L s).map (fun p => f p.2)) = zdt (L.map (fun p => f p.2)) - f u
 | [], _, h => by simp at h
 | p :: L, hn, h => by
  obtain ⟨h1, h2⟩ := List.nodup_cons.1 (show (p.1 :: zaq L).Nodup from hn)
  rcases List.mem_cons.1 h with rfl | h
  ·have e : zby ((s, u) :: L) s = L := by
    unfold zby
    rw [List.filter_cons, if_neg (by simp)]
    refine List.filter_eq_self.2 (fun q hq => ?_)
    simp only [decide_eq_true_eq]
    exact fun e => h1 (List.mem_map.2 ⟨q, hq, e⟩)
   rw [e]; simp only [List.map_cons, zdt]; omega
  ·have hne : p.1 ≠ s := fun e => h1 (List.mem_map.2 ⟨_, h, e.symm⟩)
   have e : zby (p :: L) s = p :: zby L s := by unfold zby; rw [List.filter_cons, if_pos (by simpa using hne)]
   have ih := sum_del f h2 h
   rw [e]; simp only [List.map_cons, zdt, ih]; omega
theorem MOk.rolled (h : MOk c ep m) {t : Tok} {g : Lse} {x : Tsk} (hg : zbq m.QL t = some g) (hx : zbq m.TL g.job = some x) (hr : x.rl = true) (cl : Cl) :
  MOk c ep { m with L := zeg m.L x.s ⟨3, cl⟩, TL := zby m.TL g.job, QL := zby m.QL t } /\ (∀ f : SV -> Int, zdt ((zeg m.L x.s ⟨3, cl⟩).map (fun p => f p.2)) = zdt (m.L.map (fun p => f p.2)) - f (stL m.L x.s) + f ⟨3, cl⟩) /\ (stL m.L x.s).st = 2 /\ x.s ∈ zaq m.L := by
 have h2 := h.tasks _ (zbj hx)
 have hm : (x.s, stL m.L x.s) ∈ m.L := zcc h2.mem
 have hst : (stL m.L x.s).st = 2 := h2.roll hr
 have hsum := fun f : SV -> Int => sum_put_at (v := ⟨3, cl⟩) h.seg.nl hm f
 have hs := h.seg
 have hnr : x.s.t ≠ -1 := fun e => by have h9 : (stL m.L x.s).st = 1 := (hs.raw _ hm e).1; omega
 have hkeys : ∀ k, k ∈ zaq (zeg m.L x.s ⟨3, cl⟩) ↔ k ∈ zaq m.L := fun k => by
  rw [zcw]; exact ⟨fun e => e.elim id (fun e => e ▸ h2.mem), .inl⟩
 refine ⟨⟨h.now, ⟨fun p hp => ?_, nodup_putL hs.nl, fun p hp ht => ?_, fun p hp ht => ?_, fun p hp => ?_, hs.ng, fun p hp h3 => ?_, hs.goc, fun p hp ht => ?_, ?_⟩, fun p hp => ?_, zds h.nt, h.done_leas hg, zds h.nq, jobs_del h.jobs t, h.num⟩, hsum, hst, h2.mem⟩
 ·rcases zdp hp with rfl | ⟨hp, _⟩
  ·exact (show inR c x.s from hs.inr _ hm)
  ·exact hs.inr p hp
 ·rcases zdp hp with rfl | ⟨hp, _⟩
  ·exact absurd ht hnr
  ·exact hs.raw p hp ht
 ·rcases zdp hp with rfl | ⟨hp, _⟩
  ·exact .inr rfl
  ·exact hs.tier p hp ht
 ·rcases zdp hp with rfl | ⟨hp, _⟩
  ·exact (show x.s ∉ zas m.Gl from hs.disj _ hm)
  ·exact hs.disj p hp
 ·rcases zdp hp with rfl | ⟨hp, _⟩
  ·exact h2.clo
  ·exact hs.pubc p hp h3
 ·rcases zdp hp with rfl | ⟨hp, _⟩
  ·exact absurd ht hnr
  ·rcases hs.above p hp ht with ha | ha
   ·exact .inl ((hkeys _).2 ha)
   ·exact .inr ha
 ·have := hsum zep
  have hu : zep (stL m.L x.s) = 2 := by unfold zep; rw [if_neg (by omega)]
  have hu2 : zep ⟨3, cl⟩ = 2 := by unfold zep; rw [if_neg (by dsimp only; omega)]
  have := hs.used
  show zam (zeg m.L x.s ⟨3, cl⟩) <= c.qu
  unfold zam at *; omega
 ·have hne := h.other_seg hx hp
  have h1 := h.tasks p (zbw.1 hp).1
  have hst2 : stL (zeg m.L x.s ⟨3, cl⟩) p.2.s = stL m.L p.2.s := by rw [stL_put hs.nl, if_neg hne]
  exact ⟨h1.key, (hkeys _).2 h1.mem, h1.clo, fun e => by show (stL (zeg m.L x.s ⟨3, cl⟩) p.2.s).st = 2; rw [hst2]; exact h1.roll e, fun e => by show (stL (zeg m.L x.s ⟨3, cl⟩) p.2.s).st ≠ 2; rw [hst2]; exact h1.recl e, h1.since, h1.tries⟩
theorem MOk.reclaimed (h : MOk c ep m) {t : Tok} {g : Lse} {x : Tsk} (hg : zbq m.QL t = some g) (hx : zbq m.TL g.job = some x) (hr : x.rl = false) :
  MOk c ep { m with L := zby m.L x.s, Gl := zdz m.Gl x.s (), TL := zby m.TL g.job, QL := zby m.QL t } /\ (∀ f : SV -> Int, zdt ((zby m.L x.s).map (fun p => f p.2)) = zdt (m.L.map (fun p => f p.2)) - f (stL m.L x.s)) /\ (stL m.L x.s).st ≠ 2 /\ x.s ∈ zaq m.L /\ (zdz m.Gl x.s ()).length = m.Gl.length + 1 := by
 have h2 := h.tasks _ (zbj hx)
 have hm : (x.s, stL m.L x.s) ∈ m.L := zcc h2.mem
 have hst : (stL m.L x.s).st ≠ 2 := h2.recl hr
 have hsum := fun f : SV -> Int => sum_del f h.seg.nl hm
 have hs := h.seg
 have hng : x.s ∉ zas m.Gl := hs.disj _ hm
 have hsub : ∀ p, p ∈ zby m.L x.s -> p ∈ m.L /\ p.1 ≠ x.s := fun p hp => zbw.1 hp
 have hkeys : ∀ k, k ∈ zaq m.L -> k ≠ x.s -> k ∈ zaq (zby m.L x.s) := fun k hk hne => by
  obtain ⟨p, hp, rfl⟩ := List.mem_map.1 (show k ∈ m.L.map (·.1) from hk)
  exact List.mem_map.2 ⟨p, zbw.2 ⟨hp, hne⟩, rfl⟩
 have hstd : ∀ k, k ≠ x.s -> stL (zby m.L x.s) k = stL m.L k := fun k hne => by
  unfold stL
  rw [show getL (zby m.L x.s) k = getL m.L k from by
   have := getM_del (L := m.L) hs.nl x.s k
   rw [if_neg hne] at this; exact this]
 refine ⟨⟨h.now, ⟨fun p hp => hs.inr p (hsub p hp).1, zds (L := m.L) hs.nl, fun p hp => hs.raw p (hsub p hp).1, fun p hp => hs.tier p (hsub p hp).1, fun p hp => ?_, zec hs.ng, fun p hp => hs.pubc p (hsub p hp).1, fun k hk => ?_, fun p hp ht => ?_, ?_⟩, fun p hp => ?_, zds h.nt, h.done_leas hg, zds h.nq, jobs_del h.jobs t, h.num⟩, hsum, hst, h2.mem, ?_⟩
 ·intro hk
  rcases zcg.1 hk with hk | hk
  ·exact hs.disj p (hsub p hp).1 hk
  ·exact (hsub p hp).2 hk
 ·rcases zcg.1 hk with hk | rfl
  ·exact hs.goc k hk
  ·exact h2.clo
 ·rcases hs.above p (hsub p hp).1 ht with ha | ha
  ·by_cases e : (⟨0, p.1.ser, p.1.win * c.wi / c.W 0⟩ : Sg) = x.s
   ·exact .inr (zcg.2 (.inr e))
   ·exact .inl (hkeys _ ha e)
  ·exact .inr (zcg.2 (.inl ha))
 ·have h3 := hsum zep
  have h4 := hs.use _ hm
  have := hs.used
  show zam (zby m.L x.s) <= c.qu
  unfold zam at *; dsimp only at h4; omega
 ·have hne := h.other_seg hx hp
  have h1 := h.tasks p (zbw.1 hp).1
  have hst2 := hstd p.2.s hne
  exact ⟨h1.key, hkeys _ h1.mem hne, h1.clo, fun e => by show (stL (zby m.L x.s) p.2.s).st = 2; rw [hst2]; exact h1.roll e, fun e => by show (stL (zby m.L x.s) p.2.s).st ≠ 2; rw [hst2]; exact h1.recl e, h1.since, h1.tries⟩
 ·rw [length_putM, if_neg hng]
end
end Go.Proofs.YtpbimdkclnekeaaGreat

namespace Go.Proofs.YtpbimdkclnekeaaGreat
open Value (int)
open IntKind (i64)
open Go.RowKit Go.Maps Go.Shelf
open Go.ChangeMaps (setBlock)
set_option linter.unusedVariables false
set_option maxRecDepth 8000 in
set_option maxHeartbeats 2000000 in
theorem due_Roll (c : Cf) (hc : c.ok) (a : Option Addr) (cap : Nat) (s : Sg) (ht1 : -1 <= s.t) (ht2 : s.t < c.n) (hwn : 0 <= s.win /\ s.win <= 100000) (w : World) (hts : TS w a c.n c.F c.W c.K) :
  Calls Tryz.prog 249 #[.agg #[int i64 s.t, int i64 s.ser, int i64 s.win], .agg #[int i64 c.s, int i64 c.le, int i64 c.la, int i64 c.wi, int i64 c.ke, int i64 c.qu, .slice a c.n cap]] w fun e w' => e = .returned (int i64 ((s.win + 1) * c.width s.t)) /\ Below w.heap.size w w' := by
 obtain ⟨b1, b2, hbw, bz⟩ := box2 w (.cells #[int i64 s.t, int i64 s.ser, int i64 s.win] 175) (.cells #[int i64 c.s, int i64 c.le, int i64 c.la, int i64 c.wi, int i64 c.ke, int i64 c.qu, .slice a c.n cap] 80)
 have HE := fun W hW => zac (lend_any c hc a cap s.t s.win ht1 ht2 hwn W (hts.below (w' := W) hW))
 have HBW := zac hbw
 clear hts hc hwn hbw b1 b2
 go_enter Tryz.func249, Tryz.ntmps249
 go_wp2_with (first | (go_at_call 170; refine (ud (HE _ (ud HBW))).mono ?_; rintro e w1 ⟨rfl, hb1⟩; have HB1 := zac hb1; clear hb1))
 go_ret
 exact ⟨rfl, (ud HBW).trans ((ud HB1).mono (ud HBW).size)⟩
set_option maxRecDepth 8000 in
set_option maxHeartbeats 2000000 in
theorem due_Reclaim (c : Cf) (hc : c.ok) (a : Option Addr) (cap : Nat) (s : Sg) (ht1 : -1 <= s.t) (ht2 : s.t < c.n) (hwn : 0 <= s.win /\ s.win <= 100000) (w : World) (hts : TS w a c.n c.F c.W c.K) :
  Calls Tryz.prog 252 #[.agg #[int i64 s.t, int i64 s.ser, int i64 s.win], .agg #[int i64 c.s, int i64 c.le, int i64 c.la, int i64 c.wi, int i64 c.ke, int i64 c.qu, .slice a c.n cap]] w fun e w' => e = .returned (int i64 ((s.win + 1) * c.width s.t + c.keep s.t)) /\ Below w.heap.size w w' := by
 obtain ⟨b1, b2, hbw, bz⟩ := box2 w (.cells #[int i64 s.t, int i64 s.ser, int i64 s.win] 177) (.cells #[int i64 c.s, int i64 c.le, int i64 c.la, int i64 c.wi, int i64 c.ke, int i64 c.qu, .slice a c.n cap] 80)
 have HE := fun W hW => zac (lkept_any c hc a cap s.t s.win ht1 ht2 hwn W (hts.below (w' := W) hW))
 have HBW := zac hbw
 clear hts hc hwn hbw b1 b2
 go_enter Tryz.func252, Tryz.ntmps252
 go_wp2_with (first | (go_at_call 149; refine (ud (HE _ (ud HBW))).mono ?_; rintro e w1 ⟨rfl, hb1⟩; have HB1 := zac hb1; clear hb1))
 go_ret
 exact ⟨rfl, (ud HBW).trans ((ud HB1).mono (ud HBW).size)⟩
set_option maxRecDepth 20000 in
set_option maxHeartbeats 4000000 in
theorem press_Roll {w : World} {b : Nat} {c : Cf} {a : Option Addr} {cap : Nat} {ep num : Int} {tb qb : Nat} {TL : List (Jk × Tsk)} {QL : List (Tok × Lse)} (h : zav w b c (.slice a c.n cap) ep num tb qb TL QL) (hc : c.ok) (hts : TS w a c.n c.F c.W c.K) (s : Sg) (since tries rest now : Int) (ht1 : -1 <= s.t) (ht2 : s.t < c.n) (hwn : 0 <= s.win /\ s.win <= 100000) (hnow : 0 <= now /\ now <= 100000) (hsn : 0 <= since /\ since <= now)
  (Bb Bn : Nat) (l1 : Bb < w.heap.size) (l2 : Bn < w.heap.size) (c1 : w.cell? ⟨Bb, 0, none⟩ = some (.pointer (some ⟨b, 0, none⟩))) (c2 : w.cell? ⟨Bn, 0, none⟩ = some (int i64 now)) :
  Calls Tryz.prog 135 #[.agg #[.iface 175 (.agg #[int i64 s.t, int i64 s.ser, int i64 s.win]), int i64 since, int i64 tries, int i64 rest], .pointer (some ⟨Bb, 0, none⟩), .pointer (some ⟨Bn, 0, none⟩)] w fun e w' => e = .returned (int i64 ((s.win + 1) * c.width s.t - (now - since) / 4)) /\ Below w.heap.size w w' := by
 have hbl := h.lt
 have hba : Below w.heap.size w (w.alloc (.cells #[.iface 175 (.agg #[int i64 s.t, int i64 s.ser, int i64 s.win]), int i64 since, int i64 tries, int i64 rest] 162)) := (Below.refl _ _).alloc (Nat.le_refl _) _
 have b1 := zag w (.cells #[.iface 175 (.agg #[int i64 s.t, int i64 s.ser, int i64 s.win]), int i64 since, int i64 tries, int i64 rest] 162)
 have bz := zbm w (.cells #[.iface 175 (.agg #[int i64 s.t, int i64 s.ser, int i64 s.win]), int i64 since, int i64 tries, int i64 rest] 162)
 have HD := fun W hW => zac (due_Roll c hc a cap s ht1 ht2 hwn W (hts.below (w' := W) hW))
 have hm := meth_Roll_Due s
 have hR : 0 <= (s.win + 1) * c.width s.t /\ (s.win + 1) * c.width s.t <= 1000000000 := by
  obtain ⟨hw1, hw2⟩ := hc.width ht1 ht2
  obtain ⟨hk1, hk2⟩ := hc.keeps ht1 ht2
  have h1 := Int.mul_nonneg (show 0 <= s.win + 1 by omega) (show 0 <= c.width s.t by omega)
  have h2 := Int.mul_le_mul (show s.win + 1 <= 100001 by omega) hw2 (by omega) (by omega)
  omega
 obtain ⟨v, hv⟩ : ∃ v, (s.win + 1) * c.width s.t = v := ⟨_, rfl⟩
 simp only [hv] at HD hR ⊢
 have hq : Int.tdiv (now - since) 4 = (now - since) / 4 := Int.tdiv_eq_ediv_of_nonneg (by omega)
 have hq1 : 0 <= (now - since) / 4 /\ (now - since) / 4 <= 100000 := by omega
 have x0 := ((h.later hba)).head
 have k0 : (w.alloc (.cells #[.iface 175 (.agg #[int i64 s.t, int i64 s.ser, int i64 s.win]), int i64 since, int i64 tries, int i64 rest] 162)).cell? ⟨w.heap.size, 0, none⟩ = some (.iface 175 (.agg #[int i64 s.t, int i64 s.ser, int i64 s.win])) := by rw [zab b1]; rfl
 have k1 : (w.alloc (.cells #[.iface 175 (.agg #[int i64 s.t, int i64 s.ser, int i64 s.win]), int i64 since, int i64 tries, int i64 rest] 162)).cell? ⟨w.heap.size, 1, none⟩ = some (int i64 since) := by rw [zab b1]; rfl
 have m1 := (hba.cell (p := ⟨Bb, 0, none⟩) l1).trans c1
 have m2 := (hba.cell (p := ⟨Bn, 0, none⟩) l2).trans c2
 have y0 : (w.alloc (.cells #[.iface 175 (.agg #[int i64 s.t, int i64 s.ser, int i64 s.win]), int i64 since, int i64 tries, int i64 rest] 162)).cell? ⟨b, 0, none⟩ = some (int i64 c.s) := by rw [zab x0]; rfl
 have y1 : (w.alloc (.cells #[.iface 175 (.agg #[int i64 s.t, int i64 s.ser, int i64 s.win]), int i64 since, int i64 tries, int i64 rest] 162)).cell? ⟨b, 1, none⟩ = some (int i64 c.le) := by rw [zab x0]; rfl
 have y2 : (w.alloc (.cells #[.iface 175 (.agg #[int i64 s.t, int i64 s.ser, int i64 s.win]), int i64 since, int i64 tries, int i64 rest] 162)).cell? ⟨b, 2, none⟩ = some (int i64 c.la) := by rw [zab x0]; rfl
 have y3 : (w.alloc (.cells #[.iface 175 (.agg #[int i64 s.t, int i64 s.ser, int i64 s.win]), int i64 since, int i64 tries, int i64 rest] 162)).cell? ⟨b, 3, none⟩ = some (int i64 c.wi) := by rw [zab x0]; rfl
 have y4 : (w.alloc (.cells #[.iface 175 (.agg #[int i64 s.t, int i64 s.ser, int i64 s.win]), int i64 since, int i64 tries, int i64 rest] 162)).cell? ⟨b, 4, none⟩ = some (int i64 c.ke) := by rw [zab x0]; rfl
 have y5 : (w.alloc (.cells #[.iface 175 (.agg #[int i64 s.t, int i64 s.ser, int i64 s.win]), int i64 since, int i64 tries, int i64 rest] 162)).cell? ⟨b, 5, none⟩ = some (int i64 c.qu) := by rw [zab x0]; rfl
 have y6 : (w.alloc (.cells #[.iface 175 (.agg #[int i64 s.t, int i64 s.ser, int i64 s.win]), int i64 since, int i64 tries, int i64 rest] 162)).cell? ⟨b, 6, none⟩ = some (.slice a c.n cap) := by rw [zab x0]; rfl
 have HBA := zac hba
 have BZ := zac bz
 have HQ := zac hq
 clear h hts hc hwn c1 c2 x0 b1 bz hba hv
 go_enter Tryz.func135, Tryz.ntmps135
 go_wp2_with fail
 have q1 : w.heap.size < w.heap.size + 1 := by omega
 have q2 : Bb < w.heap.size + 1 := by omega
 have q3 : Bn < w.heap.size + 1 := by omega
 have q4 : b < w.heap.size + 1 := by omega
 generalize (w.alloc (.cells #[.iface 175 (.agg #[int i64 s.t, int i64 s.ser, int i64 s.win]), int i64 since, int i64 tries, int i64 rest] 162)) = X at *
 generalize hN : w.heap.size + 1 = N at *
 have hne : Nonempty (zbg N X) := zbg.some _ _
 have hlc := fun (u : zbg N X) b o h => u.cell b o h
 have hNX : N <= X.heap.size := by rw [ud BZ]; exact Nat.le_refl _
 have HNX := zac hNX
 have HNL : Hid (w.heap.size <= N) := by show w.heap.size <= N; omega
 clear hNX hN
 refine zak N (by kernel_rfl) (by kernel_rfl) ?_
 repeat (go_big_quiet_step (first
  | (go_at_call 249; exact Calls.later (ud HNX) (ud (HD _ ((ud HBA).trans (Below.mono (Subtype.property _) (ud HNL))))))))
 refine wpQuiet_nil ?_
 rintro ⟨w1, hb1⟩
 clear hlc hne
 dsimp only
 go_wp2_with fail
 go_ret
 exact ⟨by first | rfl | rw [ud HQ], (ud HBA).trans (hb1.mono (ud HNL))⟩
set_option maxRecDepth 20000 in
set_option maxHeartbeats 4000000 in
theorem press_Reclaim {w : World} {b : Nat} {c : Cf} {a : Option Addr} {cap : Nat} {ep num : Int} {tb qb : Nat} {TL : List (Jk × Tsk)} {QL : List (Tok × Lse)} (h : zav w b c (.slice a c.n cap) ep num tb qb TL QL) (hc : c.ok) (hts : TS w a c.n c.F c.W c.K) (s : Sg) (since tries rest now : Int) (ht1 : -1 <= s.t) (ht2 : s.t < c.n) (hwn : 0 <= s.win /\ s.win <= 100000) (hnow : 0 <= now /\ now <= 100000) (hsn : 0 <= since /\ since <= now)
  (Bb Bn : Nat) (l1 : Bb < w.heap.size) (l2 : Bn < w.heap.size) (c1 : w.cell? ⟨Bb, 0, none⟩ = some (.pointer (some ⟨b, 0, none⟩))) (c2 : w.cell? ⟨Bn, 0, none⟩ = some (int i64 now)) :
  Calls Tryz.prog 135 #[.agg #[.iface 177 (.agg #[int i64 s.t, int i64 s.ser, int i64 s.win]), int i64 since, int i64 tries, int i64 rest], .pointer (some ⟨Bb, 0, none⟩), .pointer (some ⟨Bn, 0, none⟩)] w fun e w' => e = .returned (int i64 ((s.win + 1) * c.width s.t + c.keep s.t - (now - since) / 4)) /\ Below w.heap.size w w' := by
 have hbl := h.lt
 have hba : Below w.heap.size w (w.alloc (.cells #[.iface 177 (.agg #[int i64 s.t, int i64 s.ser, int i64 s.win]), int i64 since, int i64 tries, int i64 rest] 162)) := (Below.refl _ _).alloc (Nat.le_refl _) _
 have b1 := zag w (.cells #[.iface 177 (.agg #[int i64 s.t, int i64 s.ser, int i64 s.win]), int i64 since, int i64 tries, int i64 rest] 162)
 have bz := zbm w (.cells #[.iface 177 (.agg #[int i64 s.t, int i64 s.ser, int i64 s.win]), int i64 since, int i64 tries, int i64 rest] 162)
 have HD := fun W hW => zac (due_Reclaim c hc a cap s ht1 ht2 hwn W (hts.below (w' := W) hW))
 have hm := meth_Reclaim_Due s
 have hR : 0 <= (s.win + 1) * c.width s.t + c.keep s.t /\ (s.win + 1) * c.width s.t + c.keep s.t <= 1000000000 := by
  obtain ⟨hw1, hw2⟩ := hc.width ht1 ht2
  obtain ⟨hk1, hk2⟩ := hc.keeps ht1 ht2
  have h1 := Int.mul_nonneg (show 0 <= s.win + 1 by omega) (show 0 <= c.width s.t by omega)
  have h2 := Int.mul_le_mul (show s.win + 1 <= 100001 by omega) hw2 (by omega) (by omega)
  omega
 obtain ⟨v, hv⟩ : ∃ v, (s.win + 1) * c.width s.t + c.keep s.t = v := ⟨_, rfl⟩
 simp only [hv] at HD hR ⊢
 have hq : Int.tdiv (now - since) 4 = (now - since) / 4 := Int.tdiv_eq_ediv_of_nonneg (by omega)
 have hq1 : 0 <= (now - since) / 4 /\ (now - since) / 4 <= 100000 := by omega
 have x0 := ((h.later hba)).head
 have k0 : (w.alloc (.cells #[.iface 177 (.agg #[int i64 s.t, int i64 s.ser, int i64 s.win]), int i64 since, int i64 tries, int i64 rest] 162)).cell? ⟨w.heap.size, 0, none⟩ = some (.iface 177 (.agg #[int i64 s.t, int i64 s.ser, int i64 s.win])) := by rw [zab b1]; rfl
 have k1 : (w.alloc (.cells #[.iface 177 (.agg #[int i64 s.t, int i64 s.ser, int i64 s.win]), int i64 since, int i64 tries, int i64 rest] 162)).cell? ⟨w.heap.size, 1, none⟩ = some (int i64 since) := by rw [zab b1]; rfl
 have m1 := (hba.cell (p := ⟨Bb, 0, none⟩) l1).trans c1
 have m2 := (hba.cell (p := ⟨Bn, 0, none⟩) l2).trans c2
 have y0 : (w.alloc (.cells #[.iface 177 (.agg #[int i64 s.t, int i64 s.ser, int i64 s.win]), int i64 since, int i64 tries, int i64 rest] 162)).cell? ⟨b, 0, none⟩ = some (int i64 c.s) := by rw [zab x0]; rfl
 have y1 : (w.alloc (.cells #[.iface 177 (.agg #[int i64 s.t, int i64 s.ser, int i64 s.win]), int i64 since, int i64 tries, int i64 rest] 162)).cell? ⟨b, 1, none⟩ = some (int i64 c.le) := by rw [zab x0]; rfl
 have y2 : (w.alloc (.cells #[.iface 177 (.agg #[int i64 s.t, int i64 s.ser, int i64 s.win]), int i64 since, int i64 tries, int i64 rest] 162)).cell? ⟨b, 2, none⟩ = some (int i64 c.la) := by rw [zab x0]; rfl
 have y3 : (w.alloc (.cells #[.iface 177 (.agg #[int i64 s.t, int i64 s.ser, int i64 s.win]), int i64 since, int i64 tries, int i64 rest] 162)).cell? ⟨b, 3, none⟩ = some (int i64 c.wi) := by rw [zab x0]; rfl
 have y4 : (w.alloc (.cells #[.iface 177 (.agg #[int i64 s.t, int i64 s.ser, int i64 s.win]), int i64 since, int i64 tries, int i64 rest] 162)).cell? ⟨b, 4, none⟩ = some (int i64 c.ke) := by rw [zab x0]; rfl
 have y5 : (w.alloc (.cells #[.iface 177 (.agg #[int i64 s.t, int i64 s.ser, int i64 s.win]), int i64 since, int i64 tries, int i64 rest] 162)).cell? ⟨b, 5, none⟩ = some (int i64 c.qu) := by rw [zab x0]; rfl
 have y6 : (w.alloc (.cells #[.iface 177 (.agg #[int i64 s.t, int i64 s.ser, int i64 s.win]), int i64 since, int i64 tries, int i64 rest] 162)).cell? ⟨b, 6, none⟩ = some (.slice a c.n cap) := by rw [zab x0]; rfl
 have HBA := zac hba
 have BZ := zac bz
 have HQ := zac hq
 clear h hts hc hwn c1 c2 x0 b1 bz hba hv
 go_enter Tryz.func135, Tryz.ntmps135
 go_wp2_with fail
 have q1 : w.heap.size < w.heap.size + 1 := by omega
 have q2 : Bb < w.heap.size + 1 := by omega
 have q3 : Bn < w.heap.size + 1 := by omega
 have q4 : b < w.heap.size + 1 := by omega
 generalize (w.alloc (.cells #[.iface 177 (.agg #[int i64 s.t, int i64 s.ser, int i64 s.win]), int i64 since, int i64 tries, int i64 rest] 162)) = X at *
 generalize hN : w.heap.size + 1 = N at *
 have hne : Nonempty (zbg N X) := zbg.some _ _
 have hlc := fun (u : zbg N X) b o h => u.cell b o h
 have hNX : N <= X.heap.size := by rw [ud BZ]; exact Nat.le_refl _
 have HNX := zac hNX
 have HNL : Hid (w.heap.size <= N) := by show w.heap.size <= N; omega
 clear hNX hN
 refine zak N (by kernel_rfl) (by kernel_rfl) ?_
 repeat (go_big_quiet_step (first
  | (go_at_call 252; exact Calls.later (ud HNX) (ud (HD _ ((ud HBA).trans (Below.mono (Subtype.property _) (ud HNL))))))))
 refine wpQuiet_nil ?_
 rintro ⟨w1, hb1⟩
 clear hlc hne
 dsimp only
 go_wp2_with fail
 go_ret
 exact ⟨by first | rfl | rw [ud HQ], (ud HBA).trans (hb1.mono (ud HNL))⟩
end Go.Proofs.YtpbimdkclnekeaaGreat
