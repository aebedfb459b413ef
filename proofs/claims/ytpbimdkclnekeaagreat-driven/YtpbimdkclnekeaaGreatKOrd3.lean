import Derived.Test.YtpbimdkclnekeaaGreatKOrd2

namespace Go.Proofs.YtpbimdkclnekeaaGreat
open Value (int)
open IntKind (i64)
open Go.RowKit Go.Maps Go.Shelf
open Go.ChangeMaps (setBlock)
set_option linter.unusedVariables false
structure TskIn (c : Cf) (now : Int) (x : Tsk) : Prop where
 t1 : -1 <= x.s.t
 t2 : x.s.t < c.n
 win : 0 <= x.s.win /\ x.s.win <= 100000
 since : 0 <= x.since /\ x.since <= now
def pressV (c : Cf) (now : Int) (x : Tsk) : Int := match x.rl with
 | true => (x.s.win + 1) * c.width x.s.t - (now - x.since) / 4
 | false => (x.s.win + 1) * c.width x.s.t + c.keep x.s.t - (now - x.since) / 4
theorem press_any {w : World} {b : Nat} {c : Cf} {a : Option Addr} {cap : Nat} {ep num : Int} {tb qb : Nat} {TL : List (Jk × Tsk)} {QL : List (Tok × Lse)} (h : zav w b c (.slice a c.n cap) ep num tb qb TL QL) (hc : c.ok) (hts : TS w a c.n c.F c.W c.K) (now : Int) (hnow : 0 <= now /\ now <= 100000) (x : Tsk) (hx : TskIn c now x)
  (Bb Bn : Nat) (l1 : Bb < w.heap.size) (l2 : Bn < w.heap.size) (c1 : w.cell? ⟨Bb, 0, none⟩ = some (.pointer (some ⟨b, 0, none⟩))) (c2 : w.cell? ⟨Bn, 0, none⟩ = some (int i64 now)) :
  Calls Tryz.prog 135 #[.agg #[.iface x.jt (.agg #[int i64 x.s.t, int i64 x.s.ser, int i64 x.s.win]), int i64 x.since, int i64 x.tries, int i64 x.rest], .pointer (some ⟨Bb, 0, none⟩), .pointer (some ⟨Bn, 0, none⟩)] w fun e w' => e = .returned (int i64 (pressV c now x)) /\ Below w.heap.size w w' := by
 obtain ⟨rl, s, since, tries, rest⟩ := x
 cases rl with
 | true => exact press_Roll h hc hts s since tries rest now hx.t1 hx.t2 hx.win hnow hx.since Bb Bn l1 l2 c1 c2
 | false => exact press_Reclaim h hc hts s since tries rest now hx.t1 hx.t2 hx.win hnow hx.since Bb Bn l1 l2 c1 c2
def roomV (tight : Bool) (x y : Tsk) : Int := match tight with
 | true => cmpJ y.kd x.kd
 | false => 0
def ordV (c : Cf) (now : Int) (tight : Bool) (x y : Tsk) : Int := orL [roomV tight x y, cmpJ (pressV c now x) (pressV c now y), byKeyV x y]
theorem kindR_any (s : Sg) (w : World) : Calls Tryz.prog 250 #[.agg #[int i64 s.t, int i64 s.ser, int i64 s.win]] w fun e w' => e = .returned (int i64 1) /\ Below w.heap.size w w' := by
 go_enter Tryz.func250, Tryz.ntmps250
 go_wp2_with fail
 go_ret
 first | exact ⟨rfl, (Below.refl _ _).alloc (Nat.le_refl _) _⟩ | exact ⟨rfl, Below.refl _ _⟩
theorem kindC_any (s : Sg) (w : World) : Calls Tryz.prog 253 #[.agg #[int i64 s.t, int i64 s.ser, int i64 s.win]] w fun e w' => e = .returned (int i64 2) /\ Below w.heap.size w w' := by
 go_enter Tryz.func253, Tryz.ntmps253
 go_wp2_with fail
 go_ret
 first | exact ⟨rfl, (Below.refl _ _).alloc (Nat.le_refl _) _⟩ | exact ⟨rfl, Below.refl _ _⟩
theorem kind_meth (x : Tsk) : ∃ f : Nat, (∀ w, (method 419 x.jt (.agg #[int i64 x.s.t, int i64 x.s.ser, int i64 x.s.win]) "Kind").run Tryz.prog w = .ok (f, .agg #[int i64 x.s.t, int i64 x.s.ser, int i64 x.s.win]) w) /\ (∀ w, Calls Tryz.prog f #[.agg #[int i64 x.s.t, int i64 x.s.ser, int i64 x.s.win]] w fun e w' => e = .returned (int i64 x.kd) /\ Below w.heap.size w w') /\ (∀ args w, (callFunc f args).run Tryz.prog w = .ok (.enter f args) w) := by
 obtain ⟨rl, s, since, tries, rest⟩ := x
 cases rl with
 | true => exact ⟨250, meth_Roll_Kind s, kindR_any s, enters_of Tryz.func250 (by kernel_rfl) rfl⟩
 | false => exact ⟨253, meth_Reclaim_Kind s, kindC_any s, enters_of Tryz.func253 (by kernel_rfl) rfl⟩
set_option maxRecDepth 20000 in
set_option maxHeartbeats 8000000 in
theorem order2_any {w : World} {b : Nat} {c : Cf} {a : Option Addr} {cap : Nat} {ep num : Int} {tb qb : Nat} {TL : List (Jk × Tsk)} {QL : List (Tok × Lse)} (h : zav w b c (.slice a c.n cap) ep num tb qb TL QL) (hc : c.ok) (hts : TS w a c.n c.F c.W c.K) (now : Int) (hnow : 0 <= now /\ now <= 100000) (tight : Bool) (q : Nat) (hO : OrdAt w b now tight q) (x y : Tsk) (hx : TskIn c now x) (hy : TskIn c now y) :
  Calls Tryz.prog 136 #[.agg #[.iface x.jt (.agg #[int i64 x.s.t, int i64 x.s.ser, int i64 x.s.win]), int i64 x.since, int i64 x.tries, int i64 x.rest], .agg #[.iface y.jt (.agg #[int i64 y.s.t, int i64 y.s.ser, int i64 y.s.win]), int i64 y.since, int i64 y.tries, int i64 y.rest], .pointer (some ⟨q + 2, 0, none⟩), .pointer (some ⟨q + 3, 0, none⟩)] w fun e w' => e = .returned (int i64 (ordV c now tight x y)) /\ Below w.heap.size w w' := by
 have t0 : w.cell? ⟨q + 2, 0, none⟩ = some (.bool tight) := by rw [zab hO.b2]; rfl
 have lt2 := zaa hO.b2
 obtain ⟨b1, b2, hbw, bz⟩ := box2 w (.cells #[.iface x.jt (.agg #[int i64 x.s.t, int i64 x.s.ser, int i64 x.s.win]), int i64 x.since, int i64 x.tries, int i64 x.rest] 162) (.cells #[.iface y.jt (.agg #[int i64 y.s.t, int i64 y.s.ser, int i64 y.s.win]), int i64 y.since, int i64 y.tries, int i64 y.rest] 162)
 have b3 := (hbw.block _ (zaa hO.b3)).trans hO.b3
 have x0 : ((w.alloc (.cells #[.iface x.jt (.agg #[int i64 x.s.t, int i64 x.s.ser, int i64 x.s.win]), int i64 x.since, int i64 x.tries, int i64 x.rest] 162)).alloc (.cells #[.iface y.jt (.agg #[int i64 y.s.t, int i64 y.s.ser, int i64 y.s.win]), int i64 y.since, int i64 y.tries, int i64 y.rest] 162)).cell? ⟨w.heap.size, 0, none⟩ = some (.iface x.jt (.agg #[int i64 x.s.t, int i64 x.s.ser, int i64 x.s.win])) := by rw [zab b1]; rfl
 have x1 : ((w.alloc (.cells #[.iface x.jt (.agg #[int i64 x.s.t, int i64 x.s.ser, int i64 x.s.win]), int i64 x.since, int i64 x.tries, int i64 x.rest] 162)).alloc (.cells #[.iface y.jt (.agg #[int i64 y.s.t, int i64 y.s.ser, int i64 y.s.win]), int i64 y.since, int i64 y.tries, int i64 y.rest] 162)).cell? ⟨w.heap.size, 1, none⟩ = some (int i64 x.since) := by rw [zab b1]; rfl
 have x2 : ((w.alloc (.cells #[.iface x.jt (.agg #[int i64 x.s.t, int i64 x.s.ser, int i64 x.s.win]), int i64 x.since, int i64 x.tries, int i64 x.rest] 162)).alloc (.cells #[.iface y.jt (.agg #[int i64 y.s.t, int i64 y.s.ser, int i64 y.s.win]), int i64 y.since, int i64 y.tries, int i64 y.rest] 162)).cell? ⟨w.heap.size, 2, none⟩ = some (int i64 x.tries) := by rw [zab b1]; rfl
 have x3 : ((w.alloc (.cells #[.iface x.jt (.agg #[int i64 x.s.t, int i64 x.s.ser, int i64 x.s.win]), int i64 x.since, int i64 x.tries, int i64 x.rest] 162)).alloc (.cells #[.iface y.jt (.agg #[int i64 y.s.t, int i64 y.s.ser, int i64 y.s.win]), int i64 y.since, int i64 y.tries, int i64 y.rest] 162)).cell? ⟨w.heap.size, 3, none⟩ = some (int i64 x.rest) := by rw [zab b1]; rfl
 have x4 : ((w.alloc (.cells #[.iface x.jt (.agg #[int i64 x.s.t, int i64 x.s.ser, int i64 x.s.win]), int i64 x.since, int i64 x.tries, int i64 x.rest] 162)).alloc (.cells #[.iface y.jt (.agg #[int i64 y.s.t, int i64 y.s.ser, int i64 y.s.win]), int i64 y.since, int i64 y.tries, int i64 y.rest] 162)).cell? ⟨w.heap.size + 1, 0, none⟩ = some (.iface y.jt (.agg #[int i64 y.s.t, int i64 y.s.ser, int i64 y.s.win])) := by rw [zab b2]; rfl
 have x5 : ((w.alloc (.cells #[.iface x.jt (.agg #[int i64 x.s.t, int i64 x.s.ser, int i64 x.s.win]), int i64 x.since, int i64 x.tries, int i64 x.rest] 162)).alloc (.cells #[.iface y.jt (.agg #[int i64 y.s.t, int i64 y.s.ser, int i64 y.s.win]), int i64 y.since, int i64 y.tries, int i64 y.rest] 162)).cell? ⟨w.heap.size + 1, 1, none⟩ = some (int i64 y.since) := by rw [zab b2]; rfl
 have x6 : ((w.alloc (.cells #[.iface x.jt (.agg #[int i64 x.s.t, int i64 x.s.ser, int i64 x.s.win]), int i64 x.since, int i64 x.tries, int i64 x.rest] 162)).alloc (.cells #[.iface y.jt (.agg #[int i64 y.s.t, int i64 y.s.ser, int i64 y.s.win]), int i64 y.since, int i64 y.tries, int i64 y.rest] 162)).cell? ⟨w.heap.size + 1, 2, none⟩ = some (int i64 y.tries) := by rw [zab b2]; rfl
 have x7 : ((w.alloc (.cells #[.iface x.jt (.agg #[int i64 x.s.t, int i64 x.s.ser, int i64 x.s.win]), int i64 x.since, int i64 x.tries, int i64 x.rest] 162)).alloc (.cells #[.iface y.jt (.agg #[int i64 y.s.t, int i64 y.s.ser, int i64 y.s.win]), int i64 y.since, int i64 y.tries, int i64 y.rest] 162)).cell? ⟨w.heap.size + 1, 3, none⟩ = some (int i64 y.rest) := by rw [zab b2]; rfl
 have x8 : ((w.alloc (.cells #[.iface x.jt (.agg #[int i64 x.s.t, int i64 x.s.ser, int i64 x.s.win]), int i64 x.since, int i64 x.tries, int i64 x.rest] 162)).alloc (.cells #[.iface y.jt (.agg #[int i64 y.s.t, int i64 y.s.ser, int i64 y.s.win]), int i64 y.since, int i64 y.tries, int i64 y.rest] 162)).cell? ⟨q + 3, 0, none⟩ = some (.func (.func 135) #[] #[.pointer (some ⟨q, 0, none⟩), .pointer (some ⟨q + 1, 0, none⟩)]) := by rw [zab b3]; rfl
 have hOX := hO.later hbw
 have l3w := zaa hO.b0
 have l4w := zaa hO.b1
 have l2w := zaa hO.b3
 have HPX : Hid (∀ V : World, Below ((w.alloc (.cells #[.iface x.jt (.agg #[int i64 x.s.t, int i64 x.s.ser, int i64 x.s.win]), int i64 x.since, int i64 x.tries, int i64 x.rest] 162)).alloc (.cells #[.iface y.jt (.agg #[int i64 y.s.t, int i64 y.s.ser, int i64 y.s.win]), int i64 y.since, int i64 y.tries, int i64 y.rest] 162)).heap.size ((w.alloc (.cells #[.iface x.jt (.agg #[int i64 x.s.t, int i64 x.s.ser, int i64 x.s.win]), int i64 x.since, int i64 x.tries, int i64 x.rest] 162)).alloc (.cells #[.iface y.jt (.agg #[int i64 y.s.t, int i64 y.s.ser, int i64 y.s.win]), int i64 y.since, int i64 y.tries, int i64 y.rest] 162)) V -> w.heap.size <= w.heap.size -> Hid (Calls Tryz.prog 135 #[.agg #[.iface x.jt (.agg #[int i64 x.s.t, int i64 x.s.ser, int i64 x.s.win]), int i64 x.since, int i64 x.tries, int i64 x.rest], .pointer (some ⟨q, 0, none⟩), .pointer (some ⟨q + 1, 0, none⟩)] V fun e w' => e = .returned (int i64 (pressV c now x)) /\ Below V.heap.size V w')) := fun V hV _ => by
  have hw := hbw.trans (hV.mono hbw.size)
  have hOV := hO.later hw
  exact press_any (h.later hw) hc (hts.below hw) now hnow x hx q (q + 1) (zaa hOV.b0) (zaa hOV.b1) (by rw [zab hOV.b0]; rfl) (by rw [zab hOV.b1]; rfl)
 have HPY : Hid (∀ V : World, Below ((w.alloc (.cells #[.iface x.jt (.agg #[int i64 x.s.t, int i64 x.s.ser, int i64 x.s.win]), int i64 x.since, int i64 x.tries, int i64 x.rest] 162)).alloc (.cells #[.iface y.jt (.agg #[int i64 y.s.t, int i64 y.s.ser, int i64 y.s.win]), int i64 y.since, int i64 y.tries, int i64 y.rest] 162)).heap.size ((w.alloc (.cells #[.iface x.jt (.agg #[int i64 x.s.t, int i64 x.s.ser, int i64 x.s.win]), int i64 x.since, int i64 x.tries, int i64 x.rest] 162)).alloc (.cells #[.iface y.jt (.agg #[int i64 y.s.t, int i64 y.s.ser, int i64 y.s.win]), int i64 y.since, int i64 y.tries, int i64 y.rest] 162)) V -> w.heap.size <= w.heap.size -> Hid (Calls Tryz.prog 135 #[.agg #[.iface y.jt (.agg #[int i64 y.s.t, int i64 y.s.ser, int i64 y.s.win]), int i64 y.since, int i64 y.tries, int i64 y.rest], .pointer (some ⟨q, 0, none⟩), .pointer (some ⟨q + 1, 0, none⟩)] V fun e w' => e = .returned (int i64 (pressV c now y)) /\ Below V.heap.size V w')) := fun V hV _ => by
  have hw := hbw.trans (hV.mono hbw.size)
  have hOV := hO.later hw
  exact press_any (h.later hw) hc (hts.below hw) now hnow y hy q (q + 1) (zaa hOV.b0) (zaa hOV.b1) (by rw [zab hOV.b0]; rfl) (by rw [zab hOV.b1]; rfl)
 obtain ⟨R, hR⟩ : ∃ R, roomV tight x y = R := ⟨_, rfl⟩
 obtain ⟨PX, hPX⟩ : ∃ PX, pressV c now x = PX := ⟨_, rfl⟩
 obtain ⟨PY, hPY⟩ : ∃ PY, pressV c now y = PY := ⟨_, rfl⟩
 obtain ⟨CP, hCP⟩ : ∃ CP, cmpJ PX PY = CP := ⟨_, rfl⟩
 obtain ⟨BK, hBK⟩ : ∃ BK, byKeyV x y = BK := ⟨_, rfl⟩
 have HOV : Hid (ordV c now tight x y = orL [R, CP, BK]) := by show _ = _; unfold ordV; rw [hR, hPX, hPY, hCP, hBK]
 rw [hPX] at HPX
 rw [hPY] at HPY
 have HBK := fun W => zac (byKey_any x y W)
 simp only [hBK] at HBK
 have HCM := fun W => zac (compare64_any PX PY W)
 simp only [hCP] at HCM
 have HOR : ∀ (Y W : World), W.heap[Y.heap.size]? = some (.cells #[int i64 R, int i64 CP, int i64 BK] 3) -> Hid (Calls Tryz.prog 138 #[.slice (some ⟨Y.heap.size, 0, none⟩) 3 3] W fun e w' => e = .returned (int i64 (orL [R, CP, BK])) /\ w' = W) := fun Y W hW =>
  or_any [R, CP, BK] (by simp) W Y.heap.size (fun k v hk => by
   rw [zab hW]
   match k, hk with
   | 0, hk => simp at hk; subst hk; rfl
   | 1, hk => simp at hk; subst hk; rfl
   | 2, hk => simp at hk; subst hk; rfl)
 have HXB := zac hbw
 have HR := zac hR
 have tX := (hbw.cell (p := ⟨q + 2, 0, none⟩) lt2).trans t0
 clear h hc hts hnow hO hx hy hPX hPY hBK hR hOX b1 b2 b3 hbw hCP t0
 cases tight with
 | false =>
  go_enter Tryz.func136, Tryz.ntmps136
  have hR0 : (0 : Int) = R := ud HR
  go_wp2_with fail
  generalize hX : ((w.alloc (.cells #[.iface x.jt (.agg #[int i64 x.s.t, int i64 x.s.ser, int i64 x.s.win]), int i64 x.since, int i64 x.tries, int i64 x.rest] 162)).alloc (.cells #[.iface y.jt (.agg #[int i64 y.s.t, int i64 y.s.ser, int i64 y.s.win]), int i64 y.since, int i64 y.tries, int i64 y.rest] 162)) = X at *
  have l0x : w.heap.size < X.heap.size := by omega
  have l1x : w.heap.size + 1 < X.heap.size := by omega
  have l2x : q + 3 < X.heap.size := by omega
  have l3x : q < X.heap.size := by omega
  have l4x : q + 1 < X.heap.size := by omega
  have HXN : Hid (w.heap.size <= X.heap.size) := by show _ <= _; omega
  clear hX bz l2w l3w l4w lt2 tX
  generalize w.heap.size + 1 = n1 at *
  generalize hn0 : w.heap.size = n0 at *
  rw [hR0]
  have hVX : Below X.heap.size X X := Below.refl _ _
  obtain ⟨V, hVe⟩ : ∃ V, X = V := ⟨_, rfl⟩
  have HV : Hid (Below X.heap.size X V) := by rw [<- hVe]; exact hVX
  rw [hVe]
  have v0 : V.cell? ⟨n0, 0, none⟩ = some (.iface x.jt (.agg #[int i64 x.s.t, int i64 x.s.ser, int i64 x.s.win])) := ((ud HV).cell (p := ⟨n0, 0, none⟩) l0x).trans x0
  have v1 : V.cell? ⟨n0, 1, none⟩ = some (int i64 x.since) := ((ud HV).cell (p := ⟨n0, 1, none⟩) l0x).trans x1
  have v2 : V.cell? ⟨n0, 2, none⟩ = some (int i64 x.tries) := ((ud HV).cell (p := ⟨n0, 2, none⟩) l0x).trans x2
  have v3 : V.cell? ⟨n0, 3, none⟩ = some (int i64 x.rest) := ((ud HV).cell (p := ⟨n0, 3, none⟩) l0x).trans x3
  have v4 : V.cell? ⟨n1, 0, none⟩ = some (.iface y.jt (.agg #[int i64 y.s.t, int i64 y.s.ser, int i64 y.s.win])) := ((ud HV).cell (p := ⟨n1, 0, none⟩) l1x).trans x4
  have v5 : V.cell? ⟨n1, 1, none⟩ = some (int i64 y.since) := ((ud HV).cell (p := ⟨n1, 1, none⟩) l1x).trans x5
  have v6 : V.cell? ⟨n1, 2, none⟩ = some (int i64 y.tries) := ((ud HV).cell (p := ⟨n1, 2, none⟩) l1x).trans x6
  have v7 : V.cell? ⟨n1, 3, none⟩ = some (int i64 y.rest) := ((ud HV).cell (p := ⟨n1, 3, none⟩) l1x).trans x7
  have v8 : V.cell? ⟨q + 3, 0, none⟩ = some (.func (.func 135) #[] #[.pointer (some ⟨q, 0, none⟩), .pointer (some ⟨q + 1, 0, none⟩)]) := ((ud HV).cell (p := ⟨q + 3, 0, none⟩) l2x).trans x8
  have l0v := Nat.lt_of_lt_of_le l0x (ud HV).size
  have l1v := Nat.lt_of_lt_of_le l1x (ud HV).size
  have l2v := Nat.lt_of_lt_of_le l2x (ud HV).size
  have l3v := Nat.lt_of_lt_of_le l3x (ud HV).size
  have l4v := Nat.lt_of_lt_of_le l4x (ud HV).size
  clear hVe hVX x0 x1 x2 x3 x4 x5 x6 x7 x8
  have HPX0 := ud HPX V (ud HV) (Nat.le_refl _)
  have HPX1 := ud HPX V.drew (ud HV).drew (Nat.le_refl _)
  go_region_held3 (fun w' => w'.cell? ⟨n0, 0, none⟩ = some (.iface x.jt (.agg #[int i64 x.s.t, int i64 x.s.ser, int i64 x.s.win])) /\ w'.cell? ⟨n0, 1, none⟩ = some (int i64 x.since) /\ w'.cell? ⟨n0, 2, none⟩ = some (int i64 x.tries) /\ w'.cell? ⟨n0, 3, none⟩ = some (int i64 x.rest) /\ w'.cell? ⟨n1, 0, none⟩ = some (.iface y.jt (.agg #[int i64 y.s.t, int i64 y.s.ser, int i64 y.s.win])) /\ w'.cell? ⟨n1, 1, none⟩ = some (int i64 y.since) /\ w'.cell? ⟨n1, 2, none⟩ = some (int i64 y.tries) /\ w'.cell? ⟨n1, 3, none⟩ = some (int i64 y.rest) /\ w'.cell? ⟨q + 3, 0, none⟩ = some (.func (.func 135) #[] #[.pointer (some ⟨q, 0, none⟩), .pointer (some ⟨q + 1, 0, none⟩)])) (go_keep) (first
   | (go_at_call 135; (first | (with_reducible refine (ud HPX0).mono ?_) | (with_reducible refine (ud HPX1).mono ?_)); rintro e V1 ⟨rfl, hb10⟩; have hb1 : Below V.heap.size V V1 := ⟨hb10.os, hb10.tape, hb10.output, hb10.size, hb10.block⟩; clear hb10; have a0 : V1.cell? ⟨n0, 0, none⟩ = some (.iface x.jt (.agg #[int i64 x.s.t, int i64 x.s.ser, int i64 x.s.win])) := (hb1.cell (p := ⟨n0, 0, none⟩) l0v).trans v0; have a1 : V1.cell? ⟨n0, 1, none⟩ = some (int i64 x.since) := (hb1.cell (p := ⟨n0, 1, none⟩) l0v).trans v1; have a2 : V1.cell? ⟨n0, 2, none⟩ = some (int i64 x.tries) := (hb1.cell (p := ⟨n0, 2, none⟩) l0v).trans v2; have a3 : V1.cell? ⟨n0, 3, none⟩ = some (int i64 x.rest) := (hb1.cell (p := ⟨n0, 3, none⟩) l0v).trans v3; have a4 : V1.cell? ⟨n1, 0, none⟩ = some (.iface y.jt (.agg #[int i64 y.s.t, int i64 y.s.ser, int i64 y.s.win])) := (hb1.cell (p := ⟨n1, 0, none⟩) l1v).trans v4; have a5 : V1.cell? ⟨n1, 1, none⟩ = some (int i64 y.since) := (hb1.cell (p := ⟨n1, 1, none⟩) l1v).trans v5; have a6 : V1.cell? ⟨n1, 2, none⟩ = some (int i64 y.tries) := (hb1.cell (p := ⟨n1, 2, none⟩) l1v).trans v6; have a7 : V1.cell? ⟨n1, 3, none⟩ = some (int i64 y.rest) := (hb1.cell (p := ⟨n1, 3, none⟩) l1v).trans v7; have a8 : V1.cell? ⟨q + 3, 0, none⟩ = some (.func (.func 135) #[] #[.pointer (some ⟨q, 0, none⟩), .pointer (some ⟨q + 1, 0, none⟩)]) := (hb1.cell (p := ⟨q + 3, 0, none⟩) l2v).trans v8; have l0a := Nat.lt_of_lt_of_le l0v hb1.size; have l1a := Nat.lt_of_lt_of_le l1v hb1.size; have l2a := Nat.lt_of_lt_of_le l2v hb1.size; have l3a := Nat.lt_of_lt_of_le l3v hb1.size; have l4a := Nat.lt_of_lt_of_le l4v hb1.size; have HPY0 := ud HPY V1 ((ud HV).trans (hb1.mono (ud HV).size)) (Nat.le_refl _); have HPY1 := ud HPY V1.drew ((ud HV).trans (hb1.mono (ud HV).size)).drew (Nat.le_refl _); have HV1 := zac ((ud HV).trans (hb1.mono (ud HV).size)); clear hb1 HPX0 HPX1)
   | (go_at_call 135; (first | (with_reducible refine (ud HPY0).mono ?_) | (with_reducible refine (ud HPY1).mono ?_)); rintro e V2 ⟨rfl, hb20⟩; have hb2 : Below V1.heap.size V1 V2 := ⟨hb20.os, hb20.tape, hb20.output, hb20.size, hb20.block⟩; clear hb20; have c0 : V2.cell? ⟨n0, 0, none⟩ = some (.iface x.jt (.agg #[int i64 x.s.t, int i64 x.s.ser, int i64 x.s.win])) := (hb2.cell (p := ⟨n0, 0, none⟩) l0a).trans a0; have c1 : V2.cell? ⟨n0, 1, none⟩ = some (int i64 x.since) := (hb2.cell (p := ⟨n0, 1, none⟩) l0a).trans a1; have c2 : V2.cell? ⟨n0, 2, none⟩ = some (int i64 x.tries) := (hb2.cell (p := ⟨n0, 2, none⟩) l0a).trans a2; have c3 : V2.cell? ⟨n0, 3, none⟩ = some (int i64 x.rest) := (hb2.cell (p := ⟨n0, 3, none⟩) l0a).trans a3; have c4 : V2.cell? ⟨n1, 0, none⟩ = some (.iface y.jt (.agg #[int i64 y.s.t, int i64 y.s.ser, int i64 y.s.win])) := (hb2.cell (p := ⟨n1, 0, none⟩) l1a).trans a4; have c5 : V2.cell? ⟨n1, 1, none⟩ = some (int i64 y.since) := (hb2.cell (p := ⟨n1, 1, none⟩) l1a).trans a5; have c6 : V2.cell? ⟨n1, 2, none⟩ = some (int i64 y.tries) := (hb2.cell (p := ⟨n1, 2, none⟩) l1a).trans a6; have c7 : V2.cell? ⟨n1, 3, none⟩ = some (int i64 y.rest) := (hb2.cell (p := ⟨n1, 3, none⟩) l1a).trans a7; have c8 : V2.cell? ⟨q + 3, 0, none⟩ = some (.func (.func 135) #[] #[.pointer (some ⟨q, 0, none⟩), .pointer (some ⟨q + 1, 0, none⟩)]) := (hb2.cell (p := ⟨q + 3, 0, none⟩) l2a).trans a8; have l0c := Nat.lt_of_lt_of_le l0a hb2.size; have l1c := Nat.lt_of_lt_of_le l1a hb2.size; have l2c := Nat.lt_of_lt_of_le l2a hb2.size; have l3c := Nat.lt_of_lt_of_le l3a hb2.size; have l4c := Nat.lt_of_lt_of_le l4a hb2.size; have HV2 := zac ((ud HV1).trans (hb2.mono (ud HV1).size)); clear hb2 HPY0 HPY1)
   | (go_at_call 137; (with_reducible refine (ud (HCM _)).mono ?_); rintro e V9 ⟨rfl, h9⟩; have h9' := h9.symm; subst h9')
   | (go_at_call 91; (with_reducible refine (ud (HBK _)).mono ?_); rintro e V3 ⟨rfl, hb30⟩; have hb3 : Below V2.heap.size V2 V3 := ⟨hb30.os, hb30.tape, hb30.output, hb30.size, hb30.block⟩; clear hb30; have d0 : V3.cell? ⟨n0, 0, none⟩ = some (.iface x.jt (.agg #[int i64 x.s.t, int i64 x.s.ser, int i64 x.s.win])) := (hb3.cell (p := ⟨n0, 0, none⟩) l0c).trans c0; have d1 : V3.cell? ⟨n0, 1, none⟩ = some (int i64 x.since) := (hb3.cell (p := ⟨n0, 1, none⟩) l0c).trans c1; have d2 : V3.cell? ⟨n0, 2, none⟩ = some (int i64 x.tries) := (hb3.cell (p := ⟨n0, 2, none⟩) l0c).trans c2; have d3 : V3.cell? ⟨n0, 3, none⟩ = some (int i64 x.rest) := (hb3.cell (p := ⟨n0, 3, none⟩) l0c).trans c3; have d4 : V3.cell? ⟨n1, 0, none⟩ = some (.iface y.jt (.agg #[int i64 y.s.t, int i64 y.s.ser, int i64 y.s.win])) := (hb3.cell (p := ⟨n1, 0, none⟩) l1c).trans c4; have d5 : V3.cell? ⟨n1, 1, none⟩ = some (int i64 y.since) := (hb3.cell (p := ⟨n1, 1, none⟩) l1c).trans c5; have d6 : V3.cell? ⟨n1, 2, none⟩ = some (int i64 y.tries) := (hb3.cell (p := ⟨n1, 2, none⟩) l1c).trans c6; have d7 : V3.cell? ⟨n1, 3, none⟩ = some (int i64 y.rest) := (hb3.cell (p := ⟨n1, 3, none⟩) l1c).trans c7; have d8 : V3.cell? ⟨q + 3, 0, none⟩ = some (.func (.func 135) #[] #[.pointer (some ⟨q, 0, none⟩), .pointer (some ⟨q + 1, 0, none⟩)]) := (hb3.cell (p := ⟨q + 3, 0, none⟩) l2c).trans c8; have l0d := Nat.lt_of_lt_of_le l0c hb3.size; have l1d := Nat.lt_of_lt_of_le l1c hb3.size; have l2d := Nat.lt_of_lt_of_le l2c hb3.size; have l3d := Nat.lt_of_lt_of_le l3c hb3.size; have l4d := Nat.lt_of_lt_of_le l4c hb3.size; have HO0 := HOR V3 (V3.alloc (.cells #[int i64 R, int i64 CP, int i64 BK] 3)) (zag _ _); have HO1 := HOR V3 (V3.alloc (.cells #[int i64 R, int i64 CP, int i64 BK] 3)).drew (zag _ _); have HO2 := HOR V3 (V3.drew.alloc (.cells #[int i64 R, int i64 CP, int i64 BK] 3)) (zag V3.drew _); have HV3 := zac ((ud HV2).trans (hb3.mono (ud HV2).size)); clear hb3 HOR)
   | (go_at_call 138; (first | (with_reducible refine (ud HO0).mono ?_) | (with_reducible refine (ud HO1).mono ?_) | (with_reducible refine (ud HO2).mono ?_)); rintro e V8 ⟨rfl, rfl⟩))
  go_wp2_with fail
  go_ret
  have h3 := ud HV3
  exact ⟨by rw [ud HOV]; rfl, by rw [hn0]; first | exact ((ud HXB).trans ((h3.mono (ud HXN)).alloc (Nat.le_trans (ud HXN) h3.size) _)).drew | exact (ud HXB).trans ((h3.mono (ud HXN)).alloc (Nat.le_trans (ud HXN) h3.size) _) | exact (ud HXB).trans ((h3.mono (ud HXN)).drew.alloc (Nat.le_trans (ud HXN) h3.size) _)⟩
 | true =>
  obtain ⟨fx, mx, kx, ex⟩ := kind_meth x
  obtain ⟨fy, my, ky, ey⟩ := kind_meth y
  have HKX := fun W => zac (kx W)
  have HKY := fun W => zac (ky W)
  have hR0 : cmpJ y.kd x.kd = R := ud HR
  have HCK := fun W => zac (compare64_any y.kd x.kd W)
  simp only [hR0] at HCK
  clear kx ky hR0
  go_enter Tryz.func136, Tryz.ntmps136
  go_wp2_with fail
  generalize hX : ((w.alloc (.cells #[.iface x.jt (.agg #[int i64 x.s.t, int i64 x.s.ser, int i64 x.s.win]), int i64 x.since, int i64 x.tries, int i64 x.rest] 162)).alloc (.cells #[.iface y.jt (.agg #[int i64 y.s.t, int i64 y.s.ser, int i64 y.s.win]), int i64 y.since, int i64 y.tries, int i64 y.rest] 162)) = X at *
  have l0x : w.heap.size < X.heap.size := by omega
  have l1x : w.heap.size + 1 < X.heap.size := by omega
  have l2x : q + 3 < X.heap.size := by omega
  have l3x : q < X.heap.size := by omega
  have l4x : q + 1 < X.heap.size := by omega
  have HXN : Hid (w.heap.size <= X.heap.size) := by show _ <= _; omega
  clear hX bz l2w l3w l4w lt2 tX
  generalize w.heap.size + 1 = n1 at *
  generalize hn0 : w.heap.size = n0 at *
  rename_i Q1 K1 hK1
  have HR2 : Hid (∀ (u9 u10 u11 u12 u13 u14 u15 : Value) (V : World), Below X.heap.size X V -> K1 { tmps := #[.agg #[.iface x.jt (.agg #[int i64 x.s.t, int i64 x.s.ser, int i64 x.s.win]), int i64 x.since, int i64 x.tries, int i64 x.rest], .agg #[.iface y.jt (.agg #[int i64 y.s.t, int i64 y.s.ser, int i64 y.s.win]), int i64 y.since, int i64 y.tries, int i64 y.rest], .pointer (some ⟨q + 2, 0, none⟩), .pointer (some ⟨q + 3, 0, none⟩), .pointer (some ⟨n0, 0, none⟩), .pointer (some ⟨n1, 0, none⟩), int i64 0, int i64 R, .bool true, u9, u10, u11, u12, u13, u14, u15, undef, undef, undef, undef, undef, undef, undef, undef, undef, undef, undef, undef, undef], defers := [] } V) := by
   show ∀ (u9 u10 u11 u12 u13 u14 u15 : Value) (V : World), Below X.heap.size X V -> K1 { tmps := #[.agg #[.iface x.jt (.agg #[int i64 x.s.t, int i64 x.s.ser, int i64 x.s.win]), int i64 x.since, int i64 x.tries, int i64 x.rest], .agg #[.iface y.jt (.agg #[int i64 y.s.t, int i64 y.s.ser, int i64 y.s.win]), int i64 y.since, int i64 y.tries, int i64 y.rest], .pointer (some ⟨q + 2, 0, none⟩), .pointer (some ⟨q + 3, 0, none⟩), .pointer (some ⟨n0, 0, none⟩), .pointer (some ⟨n1, 0, none⟩), int i64 0, int i64 R, .bool true, u9, u10, u11, u12, u13, u14, u15, undef, undef, undef, undef, undef, undef, undef, undef, undef, undef, undef, undef, undef], defers := [] } V
   intro u9 u10 u11 u12 u13 u14 u15 V hV0
   apply hK1
   have HV := zac hV0
   have v0 : V.cell? ⟨n0, 0, none⟩ = some (.iface x.jt (.agg #[int i64 x.s.t, int i64 x.s.ser, int i64 x.s.win])) := ((ud HV).cell (p := ⟨n0, 0, none⟩) l0x).trans x0
   have v1 : V.cell? ⟨n0, 1, none⟩ = some (int i64 x.since) := ((ud HV).cell (p := ⟨n0, 1, none⟩) l0x).trans x1
   have v2 : V.cell? ⟨n0, 2, none⟩ = some (int i64 x.tries) := ((ud HV).cell (p := ⟨n0, 2, none⟩) l0x).trans x2
   have v3 : V.cell? ⟨n0, 3, none⟩ = some (int i64 x.rest) := ((ud HV).cell (p := ⟨n0, 3, none⟩) l0x).trans x3
   have v4 : V.cell? ⟨n1, 0, none⟩ = some (.iface y.jt (.agg #[int i64 y.s.t, int i64 y.s.ser, int i64 y.s.win])) := ((ud HV).cell (p := ⟨n1, 0, none⟩) l1x).trans x4
   have v5 : V.cell? ⟨n1, 1, none⟩ = some (int i64 y.since) := ((ud HV).cell (p := ⟨n1, 1, none⟩) l1x).trans x5
   have v6 : V.cell? ⟨n1, 2, none⟩ = some (int i64 y.tries) := ((ud HV).cell (p := ⟨n1, 2, none⟩) l1x).trans x6
   have v7 : V.cell? ⟨n1, 3, none⟩ = some (int i64 y.rest) := ((ud HV).cell (p := ⟨n1, 3, none⟩) l1x).trans x7
   have v8 : V.cell? ⟨q + 3, 0, none⟩ = some (.func (.func 135) #[] #[.pointer (some ⟨q, 0, none⟩), .pointer (some ⟨q + 1, 0, none⟩)]) := ((ud HV).cell (p := ⟨q + 3, 0, none⟩) l2x).trans x8
   have l0v := Nat.lt_of_lt_of_le l0x (ud HV).size
   have l1v := Nat.lt_of_lt_of_le l1x (ud HV).size
   have l2v := Nat.lt_of_lt_of_le l2x (ud HV).size
   have l3v := Nat.lt_of_lt_of_le l3x (ud HV).size
   have l4v := Nat.lt_of_lt_of_le l4x (ud HV).size
   clear hV0 hK1 HKX HKY HCK mx my ex ey x0 x1 x2 x3 x4 x5 x6 x7 x8
   go_wp2_with fail
   have HPX0 := ud HPX V (ud HV) (Nat.le_refl _)
   have HPX1 := ud HPX V.drew (ud HV).drew (Nat.le_refl _)
   go_region_held3 (fun w' => w'.cell? ⟨n0, 0, none⟩ = some (.iface x.jt (.agg #[int i64 x.s.t, int i64 x.s.ser, int i64 x.s.win])) /\ w'.cell? ⟨n0, 1, none⟩ = some (int i64 x.since) /\ w'.cell? ⟨n0, 2, none⟩ = some (int i64 x.tries) /\ w'.cell? ⟨n0, 3, none⟩ = some (int i64 x.rest) /\ w'.cell? ⟨n1, 0, none⟩ = some (.iface y.jt (.agg #[int i64 y.s.t, int i64 y.s.ser, int i64 y.s.win])) /\ w'.cell? ⟨n1, 1, none⟩ = some (int i64 y.since) /\ w'.cell? ⟨n1, 2, none⟩ = some (int i64 y.tries) /\ w'.cell? ⟨n1, 3, none⟩ = some (int i64 y.rest) /\ w'.cell? ⟨q + 3, 0, none⟩ = some (.func (.func 135) #[] #[.pointer (some ⟨q, 0, none⟩), .pointer (some ⟨q + 1, 0, none⟩)])) (go_keep) (first
    | (go_at_call 135; (first | (with_reducible refine (ud HPX0).mono ?_) | (with_reducible refine (ud HPX1).mono ?_)); rintro e V1 ⟨rfl, hb10⟩; have hb1 : Below V.heap.size V V1 := ⟨hb10.os, hb10.tape, hb10.output, hb10.size, hb10.block⟩; clear hb10; have a0 : V1.cell? ⟨n0, 0, none⟩ = some (.iface x.jt (.agg #[int i64 x.s.t, int i64 x.s.ser, int i64 x.s.win])) := (hb1.cell (p := ⟨n0, 0, none⟩) l0v).trans v0; have a1 : V1.cell? ⟨n0, 1, none⟩ = some (int i64 x.since) := (hb1.cell (p := ⟨n0, 1, none⟩) l0v).trans v1; have a2 : V1.cell? ⟨n0, 2, none⟩ = some (int i64 x.tries) := (hb1.cell (p := ⟨n0, 2, none⟩) l0v).trans v2; have a3 : V1.cell? ⟨n0, 3, none⟩ = some (int i64 x.rest) := (hb1.cell (p := ⟨n0, 3, none⟩) l0v).trans v3; have a4 : V1.cell? ⟨n1, 0, none⟩ = some (.iface y.jt (.agg #[int i64 y.s.t, int i64 y.s.ser, int i64 y.s.win])) := (hb1.cell (p := ⟨n1, 0, none⟩) l1v).trans v4; have a5 : V1.cell? ⟨n1, 1, none⟩ = some (int i64 y.since) := (hb1.cell (p := ⟨n1, 1, none⟩) l1v).trans v5; have a6 : V1.cell? ⟨n1, 2, none⟩ = some (int i64 y.tries) := (hb1.cell (p := ⟨n1, 2, none⟩) l1v).trans v6; have a7 : V1.cell? ⟨n1, 3, none⟩ = some (int i64 y.rest) := (hb1.cell (p := ⟨n1, 3, none⟩) l1v).trans v7; have a8 : V1.cell? ⟨q + 3, 0, none⟩ = some (.func (.func 135) #[] #[.pointer (some ⟨q, 0, none⟩), .pointer (some ⟨q + 1, 0, none⟩)]) := (hb1.cell (p := ⟨q + 3, 0, none⟩) l2v).trans v8; have l0a := Nat.lt_of_lt_of_le l0v hb1.size; have l1a := Nat.lt_of_lt_of_le l1v hb1.size; have l2a := Nat.lt_of_lt_of_le l2v hb1.size; have l3a := Nat.lt_of_lt_of_le l3v hb1.size; have l4a := Nat.lt_of_lt_of_le l4v hb1.size; have HPY0 := ud HPY V1 ((ud HV).trans (hb1.mono (ud HV).size)) (Nat.le_refl _); have HPY1 := ud HPY V1.drew ((ud HV).trans (hb1.mono (ud HV).size)).drew (Nat.le_refl _); have HV1 := zac ((ud HV).trans (hb1.mono (ud HV).size)); clear hb1 HPX0 HPX1)
    | (go_at_call 135; (first | (with_reducible refine (ud HPY0).mono ?_) | (with_reducible refine (ud HPY1).mono ?_)); rintro e V2 ⟨rfl, hb20⟩; have hb2 : Below V1.heap.size V1 V2 := ⟨hb20.os, hb20.tape, hb20.output, hb20.size, hb20.block⟩; clear hb20; have c0 : V2.cell? ⟨n0, 0, none⟩ = some (.iface x.jt (.agg #[int i64 x.s.t, int i64 x.s.ser, int i64 x.s.win])) := (hb2.cell (p := ⟨n0, 0, none⟩) l0a).trans a0; have c1 : V2.cell? ⟨n0, 1, none⟩ = some (int i64 x.since) := (hb2.cell (p := ⟨n0, 1, none⟩) l0a).trans a1; have c2 : V2.cell? ⟨n0, 2, none⟩ = some (int i64 x.tries) := (hb2.cell (p := ⟨n0, 2, none⟩) l0a).trans a2; have c3 : V2.cell? ⟨n0, 3, none⟩ = some (int i64 x.rest) := (hb2.cell (p := ⟨n0, 3, none⟩) l0a).trans a3; have c4 : V2.cell? ⟨n1, 0, none⟩ = some (.iface y.jt (.agg #[int i64 y.s.t, int i64 y.s.ser, int i64 y.s.win])) := (hb2.cell (p := ⟨n1, 0, none⟩) l1a).trans a4; have c5 : V2.cell? ⟨n1, 1, none⟩ = some (int i64 y.since) := (hb2.cell (p := ⟨n1, 1, none⟩) l1a).trans a5; have c6 : V2.cell? ⟨n1, 2, none⟩ = some (int i64 y.tries) := (hb2.cell (p := ⟨n1, 2, none⟩) l1a).trans a6; have c7 : V2.cell? ⟨n1, 3, none⟩ = some (int i64 y.rest) := (hb2.cell (p := ⟨n1, 3, none⟩) l1a).trans a7; have c8 : V2.cell? ⟨q + 3, 0, none⟩ = some (.func (.func 135) #[] #[.pointer (some ⟨q, 0, none⟩), .pointer (some ⟨q + 1, 0, none⟩)]) := (hb2.cell (p := ⟨q + 3, 0, none⟩) l2a).trans a8; have l0c := Nat.lt_of_lt_of_le l0a hb2.size; have l1c := Nat.lt_of_lt_of_le l1a hb2.size; have l2c := Nat.lt_of_lt_of_le l2a hb2.size; have l3c := Nat.lt_of_lt_of_le l3a hb2.size; have l4c := Nat.lt_of_lt_of_le l4a hb2.size; have HV2 := zac ((ud HV1).trans (hb2.mono (ud HV1).size)); clear hb2 HPY0 HPY1)
    | (go_at_call 137; (with_reducible refine (ud (HCM _)).mono ?_); rintro e V9 ⟨rfl, h9⟩; have h9' := h9.symm; subst h9')
    | (go_at_call 91; (with_reducible refine (ud (HBK _)).mono ?_); rintro e V3 ⟨rfl, hb30⟩; have hb3 : Below V2.heap.size V2 V3 := ⟨hb30.os, hb30.tape, hb30.output, hb30.size, hb30.block⟩; clear hb30; have d0 : V3.cell? ⟨n0, 0, none⟩ = some (.iface x.jt (.agg #[int i64 x.s.t, int i64 x.s.ser, int i64 x.s.win])) := (hb3.cell (p := ⟨n0, 0, none⟩) l0c).trans c0; have d1 : V3.cell? ⟨n0, 1, none⟩ = some (int i64 x.since) := (hb3.cell (p := ⟨n0, 1, none⟩) l0c).trans c1; have d2 : V3.cell? ⟨n0, 2, none⟩ = some (int i64 x.tries) := (hb3.cell (p := ⟨n0, 2, none⟩) l0c).trans c2; have d3 : V3.cell? ⟨n0, 3, none⟩ = some (int i64 x.rest) := (hb3.cell (p := ⟨n0, 3, none⟩) l0c).trans c3; have d4 : V3.cell? ⟨n1, 0, none⟩ = some (.iface y.jt (.agg #[int i64 y.s.t, int i64 y.s.ser, int i64 y.s.win])) := (hb3.cell (p := ⟨n1, 0, none⟩) l1c).trans c4; have d5 : V3.cell? ⟨n1, 1, none⟩ = some (int i64 y.since) := (hb3.cell (p := ⟨n1, 1, none⟩) l1c).trans c5; have d6 : V3.cell? ⟨n1, 2, none⟩ = some (int i64 y.tries) := (hb3.cell (p := ⟨n1, 2, none⟩) l1c).trans c6; have d7 : V3.cell? ⟨n1, 3, none⟩ = some (int i64 y.rest) := (hb3.cell (p := ⟨n1, 3, none⟩) l1c).trans c7; have d8 : V3.cell? ⟨q + 3, 0, none⟩ = some (.func (.func 135) #[] #[.pointer (some ⟨q, 0, none⟩), .pointer (some ⟨q + 1, 0, none⟩)]) := (hb3.cell (p := ⟨q + 3, 0, none⟩) l2c).trans c8; have l0d := Nat.lt_of_lt_of_le l0c hb3.size; have l1d := Nat.lt_of_lt_of_le l1c hb3.size; have l2d := Nat.lt_of_lt_of_le l2c hb3.size; have l3d := Nat.lt_of_lt_of_le l3c hb3.size; have l4d := Nat.lt_of_lt_of_le l4c hb3.size; have HO0 := HOR V3 (V3.alloc (.cells #[int i64 R, int i64 CP, int i64 BK] 3)) (zag _ _); have HO1 := HOR V3 (V3.alloc (.cells #[int i64 R, int i64 CP, int i64 BK] 3)).drew (zag _ _); have HO2 := HOR V3 (V3.drew.alloc (.cells #[int i64 R, int i64 CP, int i64 BK] 3)) (zag V3.drew _); have HV3 := zac ((ud HV2).trans (hb3.mono (ud HV2).size)); clear hb3 HOR)
    | (go_at_call 138; (first | (with_reducible refine (ud HO0).mono ?_) | (with_reducible refine (ud HO1).mono ?_) | (with_reducible refine (ud HO2).mono ?_)); rintro e V8 ⟨rfl, rfl⟩))
   go_wp2_with fail
   go_ret
   have h3 := ud HV3
   exact ⟨by rw [ud HOV]; rfl, by rw [hn0]; first | exact ((ud HXB).trans ((h3.mono (ud HXN)).alloc (Nat.le_trans (ud HXN) h3.size) _)).drew | exact (ud HXB).trans ((h3.mono (ud HXN)).alloc (Nat.le_trans (ud HXN) h3.size) _) | exact (ud HXB).trans ((h3.mono (ud HXN)).drew.alloc (Nat.le_trans (ud HXN) h3.size) _)⟩
  clear hK1 HOR HBK HCM HPX HPY HOV
  go_region_held3 (fun w' => w'.cell? ⟨n0, 0, none⟩ = some (.iface x.jt (.agg #[int i64 x.s.t, int i64 x.s.ser, int i64 x.s.win])) /\ w'.cell? ⟨n1, 0, none⟩ = some (.iface y.jt (.agg #[int i64 y.s.t, int i64 y.s.ser, int i64 y.s.win]))) (go_keep) (first
   | ((with_reducible refine (ud (HKY _)).mono ?_); rintro e Y1 ⟨rfl, hy10⟩; have hy1 : Below X.heap.size X Y1 := ⟨hy10.os, hy10.tape, hy10.output, hy10.size, hy10.block⟩; clear hy10; have a0 := (hy1.cell (p := ⟨n0, 0, none⟩) l0x).trans x0; have a4 := (hy1.cell (p := ⟨n1, 0, none⟩) l1x).trans x4; have l0a := Nat.lt_of_lt_of_le l0x hy1.size; have l1a := Nat.lt_of_lt_of_le l1x hy1.size; have HY1 := zac hy1; clear hy1 HKY)
   | ((with_reducible refine (ud (HKX _)).mono ?_); rintro e Y2 ⟨rfl, hy20⟩; have hy2 : Below Y1.heap.size Y1 Y2 := ⟨hy20.os, hy20.tape, hy20.output, hy20.size, hy20.block⟩; clear hy20; have c0 := (hy2.cell (p := ⟨n0, 0, none⟩) l0a).trans a0; have c4 := (hy2.cell (p := ⟨n1, 0, none⟩) l1a).trans a4; have l0c := Nat.lt_of_lt_of_le l0a hy2.size; have l1c := Nat.lt_of_lt_of_le l1a hy2.size; have HY2 := zac ((ud HY1).trans (hy2.mono (ud HY1).size)); clear hy2 HKX)
   | (go_at_call 137; (with_reducible refine (ud (HCK _)).mono ?_); rintro e V9 ⟨rfl, h9⟩; have h9' := h9.symm; subst h9'))
  all_goals show K1 _ _
  all_goals first | exact ud HR2 _ _ _ _ _ _ _ _ (ud HY2) | exact ud HR2 _ _ _ _ _ _ _ _ (ud HY2).drew
end Go.Proofs.YtpbimdkclnekeaaGreat
