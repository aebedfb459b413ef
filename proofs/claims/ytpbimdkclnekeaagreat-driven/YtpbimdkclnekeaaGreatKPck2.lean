import Derived.Test.YtpbimdkclnekeaaGreatKOrd3
import Derived.Test.YtpbimdkclnekeaaGreatKMod2
import Derived.Test.YtpbimdkclnekeaaGreatKTel0
import Derived.Test.YtpbimdkclnekeaaGreatKKit0
import Derived.Test.YtpbimdkclnekeaaGreatKJn1
import Derived.Test.YtpbimdkclnekeaaGreatKPst0
import Derived.Test.YtpbimdkclnekeaaGreatKBrd3
import Derived.Test.YtpbimdkclnekeaaGreatKZet7

namespace Go.Proofs.YtpbimdkclnekeaaGreat
open Value (int)
open IntKind (i64)
open Go.RowKit Go.Maps Go.Shelf
open Go.ChangeMaps (setBlock)
set_option linter.unusedVariables false
theorem wh0_tsk (gf : Nat) (lb : Array Value) (hf : Nat) (hfs hc : Array Value) (w : World) :
  Calls Tryz.prog 81 #[.func (.func gf) #[] lb, .func (.func hf) hfs hc] w fun e w' => e = .returned (.func (.func 132) #[] #[.pointer (some ⟨w.heap.size, 0, none⟩), .pointer (some ⟨w.heap.size + 1, 0, none⟩)]) /\ w' = (w.alloc (.cells #[.func (.func gf) #[] lb] 159)).alloc (.cells #[.func (.func hf) hfs hc] 164) := by
 go_enter Tryz.func81, Tryz.ntmps81
 go_wp2_with fail
 go_ret
 exact ⟨rfl, rfl⟩
theorem wen_tsk : ∀ args w, (callFunc 132 args).run Tryz.prog w = .ok (.enter 132 args) w := enters_of Tryz.func132 (by kernel_rfl) rfl
theorem zav.setNum {w : World} {b : Nat} {c : Cf} {tv : Value} {ep num : Int} {tb qb : Nat} {TL : List (Jk × Tsk)} {QL : List (Tok × Lse)} (h : zav w b c tv ep num tb qb TL QL) (n : Int) : zav (w.setCell ⟨b, 8, none⟩ (int i64 n)) b c tv ep n tb qb TL QL := by
 have hk : zaj (fun k => k = b) w (w.setCell ⟨b, 8, none⟩ (int i64 n)) := zae (zaj.refl _ _) rfl
 exact ⟨zcu (i := 8) h.head (int i64 n), h.tasks.kept hk h.tb_ne, h.leases.kept hk h.qb_ne, h.apart⟩
theorem store_lse {X : World} {qb : Nat} {QL : List (Tok × Lse)} (h : zbs zch X qb QL) (hr : QL.length < maxLen) {t : Tok} (ht : t.wf) (g : Lse) :
  ∃ o, (Instr.mapUpdate 153 (.map (some qb)) (.agg #[int i64 t.ep, int i64 t.num]) (.agg #[int i64 g.kd, int i64 g.s.t, int i64 g.s.ser, int i64 g.s.win, int i64 g.slot, int i64 g.til])).run Tryz.prog X = .ok () (setBlock X qb o) /\ zbs zch (setBlock X qb o) qb (zdz QL t g) /\ zaj (fun k => k = qb) X (setBlock X qb o) := by
 obtain ⟨o, h1, h2, h3, _⟩ := run_storeM zfa h hr ht g
 exact ⟨o, h1, h2, h3⟩
theorem zav.putLeases {w w' : World} {b : Nat} {c : Cf} {tv : Value} {ep num : Int} {tb qb : Nat} {TL : List (Jk × Tsk)} {QL QL' : List (Tok × Lse)} (h : zav w b c tv ep num tb qb TL QL) (hm : zbs zch w' qb QL') (hk : zaj (fun k => k = qb) w w') : zav w' b c tv ep num tb qb TL QL' := ⟨hk.heap h.head (fun e => h.qb_ne e.symm), h.tasks.kept hk h.apart, hm, h.apart⟩
theorem kept11 {w : World} {g : Nat} (b0 b1 b2 b3 b4 b5 b6 b7 b8 b9 b10 : Value) : zaj (fun k => k = g) w (((((((((((w.setCell ⟨g, 0, none⟩ b0).setCell ⟨g, 1, none⟩ b1).setCell ⟨g, 2, none⟩ b2).setCell ⟨g, 3, none⟩ b3).setCell ⟨g, 4, none⟩ b4).setCell ⟨g, 5, none⟩ b5).setCell ⟨g, 6, none⟩ b6).setCell ⟨g, 7, none⟩ b7).setCell ⟨g, 8, none⟩ b8).setCell ⟨g, 9, none⟩ b9).setCell ⟨g, 10, none⟩ b10) := (zae (zae (zae (zae (zae (zae (zae (zae (zae (zae (zae (zaj.refl (fun k => k = g) w) rfl) rfl) rfl) rfl) rfl) rfl) rfl) rfl) rfl) rfl) rfl)
abbrev ITsk (c : Cf) (now : Int) := { x : Tsk // TskIn c now x }
noncomputable def iTsk (c : Cf) (now : Int) (h : 0 <= now) (x : Tsk) : ITsk c now := by
 classical exact if hx : TskIn c now x then ⟨x, hx⟩ else ⟨⟨true, ⟨-1, 0, 0⟩, 0, 0, 0⟩, ⟨by simp, by show (-1 : Int) < c.n; omega, by simp, by show (0 : Int) <= 0 /\ (0 : Int) <= now; omega⟩⟩
theorem iTsk_val {c : Cf} {now : Int} (h : 0 <= now) {x : Tsk} (hx : TskIn c now x) : (iTsk c now h x).1 = x := by unfold iTsk; rw [dif_pos hx]
set_option maxRecDepth 20000 in
set_option maxHeartbeats 8000000 in
theorem bpick_any {w : World} {b : Nat} {c : Cf} {a : Option Addr} {cap : Nat} {ep num : Int} {tb qb : Nat} {TL : List (Jk × Tsk)} {QL : List (Tok × Lse)} (h : zav w b c (.slice a c.n cap) ep num tb qb TL QL) (hc : c.ok) (hts : TS w a c.n c.F c.W c.K) (slot now : Int) (tight : Bool) (hnow : 0 <= now /\ now <= 100000) (hT : ∀ p ∈ TL, TskIn c now p.2) (hql : QL.length <= 100000) (hnum : 0 <= num /\ num <= 1000000000000000) (hep : zdg ep) (hqn : ∀ q ∈ QL, q.1.num <= num) :
  Calls Tryz.prog 39 #[.pointer (some ⟨b, 0, none⟩), int i64 slot, int i64 now, .bool tight] w fun e w' => (e = .returned (.tuple #[.agg #[int i64 0, int i64 0, int i64 0, int i64 0, int i64 0, int i64 0, int i64 0, int i64 0, int i64 0, int i64 0, int i64 0], .bool false]) /\ Below w.heap.size w w' /\ ∀ p ∈ TL, freeB QL now p.2 = false) \/ ∃ p, p ∈ TL /\ freeB QL now p.2 = true /\ e = .returned (.tuple #[.agg #[int i64 p.2.kd, int i64 p.2.s.t, int i64 p.2.s.ser, int i64 p.2.s.win, int i64 p.2.since, int i64 p.2.tries, int i64 p.2.rest, int i64 ep, int i64 (num + 1), int i64 slot, int i64 (now + c.le)], .bool true]) /\ zav w' b c (.slice a c.n cap) ep (num + 1) tb qb TL (zdz QL ⟨ep, num + 1⟩ ⟨p.2.kd, p.2.s, slot, now + c.le⟩) /\ zaj (fun k => k = b \/ k = qb) w w' := by
 have hbl := h.lt
 obtain ⟨y0, y1, y2, hbw, yz⟩ := box3p0 w (.cells #[.pointer (some ⟨b, 0, none⟩)] 82) (.cells #[int i64 now] 3) (.cells #[int i64 0, int i64 0, int i64 0, int i64 0, int i64 0, int i64 0, int i64 0, int i64 0, int i64 0, int i64 0, int i64 0] 51)
 have hX := h.later hbw
 have x9 := hX.cell9
 have hbX := hX.lt
 have m0 : (((w.alloc (.cells #[.pointer (some ⟨b, 0, none⟩)] 82)).alloc (.cells #[int i64 now] 3)).alloc (.cells #[int i64 0, int i64 0, int i64 0, int i64 0, int i64 0, int i64 0, int i64 0, int i64 0, int i64 0, int i64 0, int i64 0] 51)).cell? ⟨w.heap.size, 0, none⟩ = some (.pointer (some ⟨b, 0, none⟩)) := by rw [zab y0]; rfl
 have m1 : (((w.alloc (.cells #[.pointer (some ⟨b, 0, none⟩)] 82)).alloc (.cells #[int i64 now] 3)).alloc (.cells #[int i64 0, int i64 0, int i64 0, int i64 0, int i64 0, int i64 0, int i64 0, int i64 0, int i64 0, int i64 0, int i64 0] 51)).cell? ⟨w.heap.size + 1, 0, none⟩ = some (int i64 now) := by rw [zab y1]; rfl
 have HVA := zac (it_tsk0 tb (((w.alloc (.cells #[.pointer (some ⟨b, 0, none⟩)] 82)).alloc (.cells #[int i64 now] 3)).alloc (.cells #[int i64 0, int i64 0, int i64 0, int i64 0, int i64 0, int i64 0, int i64 0, int i64 0, int i64 0, int i64 0, int i64 0] 51)))
 have Y0 := zac y0
 have Y1 := zac y1
 have Y2 := zac y2
 have HBW := zac hbw
 have YZ := zac yz
 have H := zac h
 have hl0 := zaa y0
 have hl1 := zaa y1
 clear h hX y0 y1 y2 hbw yz
 go_enter Tryz.func39, Tryz.ntmps39
 go_wp2_with fail
 generalize (((w.alloc (.cells #[.pointer (some ⟨b, 0, none⟩)] 82)).alloc (.cells #[int i64 now] 3)).alloc (.cells #[int i64 0, int i64 0, int i64 0, int i64 0, int i64 0, int i64 0, int i64 0, int i64 0, int i64 0, int i64 0, int i64 0] 51)) = X at *
 refine (ud HVA).mono ?_
 rintro e X1 ⟨rfl, hX1⟩
 have hb1 : Below X.heap.size X X1 := by rw [hX1]; exact (Below.refl _ _).alloc (Nat.le_refl _) _
 have hk1 : X1.heap[X.heap.size]? = some (.cells #[.map (some tb)] 154 (0, 0)) := by rw [hX1]; exact zag _ _
 have hz1 : X1.heap.size = X.heap.size + 1 := by rw [hX1]; exact zbm _ _
 have HWH := zac (wh0_tsk 133 #[.pointer (some ⟨X.heap.size, 0, none⟩)] 83 #[] #[.pointer (some ⟨w.heap.size + 1, 0, none⟩), .pointer (some ⟨w.heap.size, 0, none⟩)] X1)
 have n0 := (hb1.cell (p := ⟨w.heap.size, 0, none⟩) hl0).trans m0
 have n1 := (hb1.cell (p := ⟨w.heap.size + 1, 0, none⟩) hl1).trans m1
 have HB1 := zac hb1
 have HK1 := zac hk1
 have HZ1 := zac hz1
 clear hX1 hb1 hk1 hz1 m0 m1 x9
 go_wp2_with fail
 refine (ud HWH).mono ?_
 rintro e X2 ⟨rfl, hX2⟩
 obtain ⟨hs2, hp2, hb2, hz2⟩ : X2.heap[X1.heap.size]? = some (.cells #[.func (.func 133) #[] #[.pointer (some ⟨X.heap.size, 0, none⟩)]] 159 (0, 0)) /\ X2.heap[X1.heap.size + 1]? = some (.cells #[.func (.func 83) #[] #[.pointer (some ⟨w.heap.size + 1, 0, none⟩), .pointer (some ⟨w.heap.size, 0, none⟩)]] 164 (0, 0)) /\ Below X1.heap.size X1 X2 /\ X2.heap.size = X1.heap.size + 2 := by rw [hX2]; exact box2 X1 _ _
 have hlm0 := Nat.lt_of_lt_of_le hl0 (ud HB1).size
 have hlm1 := Nat.lt_of_lt_of_le hl1 (ud HB1).size
 have q0 := (hb2.cell (p := ⟨w.heap.size, 0, none⟩) hlm0).trans n0
 have q1 := (hb2.cell (p := ⟨w.heap.size + 1, 0, none⟩) hlm1).trans n1
 have HS2 := zac hs2
 have HP2 := zac hp2
 have HB2 := zac hb2
 have HZ2 := zac hz2
 clear hX2 hs2 hp2 hb2 hz2 n0 n1
 go_wp2_with fail
 have HOR := zac (order_any b now tight X2)
 refine (ud HOR).mono ?_
 rintro e X3 ⟨rfl, hO, hb3, hz3⟩
 have hw2 : Below w.heap.size w X2 := (ud HBW).trans (((ud HB1).mono (ud HBW).size).trans ((ud HB2).mono (by have := (ud HB1).size; have := (ud HBW).size; omega)))
 have hw3 := hw2.trans (hb3.mono hw2.size)
 have hZ : X.heap.size = w.heap.size + 3 := ud YZ
 have hZ1 : X1.heap.size = X.heap.size + 1 := ud HZ1
 have hZ2 : X2.heap.size = X1.heap.size + 2 := ud HZ2
 have hB2 := (ud H).later hw2
 have hkX2 := ((ud HB2).block _ (by omega)).trans (ud HK1)
 have hbn2 := ((ud HB2).block _ hlm1).trans (((ud HB1).block _ hl1).trans (ud Y1))
 have hbb2 := ((ud HB2).block _ hlm0).trans (((ud HB1).block _ hl0).trans (ud Y0))
 have hseqT := it_tsk (fun x : ITsk c now => x.1) (iTsk c now hnow.1) (ex := fun _ => False) (n := X2.heap.size) X.heap.size tb TL (fun p hp => iTsk_val hnow.1 (hT p hp)) X2 (fun e => e) (by omega) (by rw [zab hkX2]; rfl) hB2.tasks
 have hseqW := where_tsk (fun x : ITsk c now => x.1) 133 #[.pointer (some ⟨X.heap.size, 0, none⟩)] en_tsk 83 #[] #[.pointer (some ⟨w.heap.size + 1, 0, none⟩), .pointer (some ⟨w.heap.size, 0, none⟩)] pick1_enters (fun x => freeB QL now x.1) X1.heap.size (X1.heap.size + 1) X2 (Nat.le_refl _) ⟨by omega, fun e => e⟩ ⟨by omega, fun e => e⟩ (ud HS2) (ud HP2)
  (fun x W ⟨m, hk⟩ => by
   have hbW := kx_below hk (Nat.le_refl _)
   have g1 := (hbW.block _ (by omega)).trans hbn2
   have g0 := (hbW.block _ (by omega)).trans hbb2
   exact pick1_any (hB2.later hbW) x.1 now hql (w.heap.size + 1) w.heap.size (zaa g1) (zaa g0) (by rw [zab g1]; rfl) (by rw [zab g0]; rfl)) hseqT
 have HF := zac (firstT_any (fun x : ITsk c now => x.1) 132 #[.pointer (some ⟨X1.heap.size, 0, none⟩), .pointer (some ⟨X1.heap.size + 1, 0, none⟩)] wen_tsk 136 #[.pointer (some ⟨X2.heap.size + 2, 0, none⟩), .pointer (some ⟨X2.heap.size + 3, 0, none⟩)] order_enters (fun x y => ordV c now tight x.1 y.1) X3 (Nat.le_trans (Nat.le_refl _) hb3.size)
  (fun x y W hW => order2_any ((ud H).later (hw3.trans (hW.mono hw3.size))) hc (hts.below (hw3.trans (hW.mono hw3.size))) now hnow tight X2.heap.size (hO.later hW) x.1 y.1 x.2 y.2)
  (hseqW.later hb3))
 have r2 := (hw3.block)
 have HW3 := zac hw3
 have l20 : w.heap.size < X2.heap.size := by omega
 have l21 : w.heap.size + 1 < X2.heap.size := by omega
 have q0' := (hb3.cell (p := ⟨w.heap.size, 0, none⟩) l20).trans q0
 have q1' := (hb3.cell (p := ⟨w.heap.size + 1, 0, none⟩) l21).trans q1
 have hr3 := (hb3.block (w.heap.size + 2) (by omega)).trans (((ud HB2).block _ (by omega)).trans (((ud HB1).block _ (by omega)).trans (ud Y2)))
 have HR3 := zac hr3
 have hbz3 : w.heap.size + 2 < X3.heap.size := by omega
 clear hw2 hw3 hB2 hkX2 hbn2 hbb2 hseqT hseqW hO hb3 r2 q0 q1 hr3 hZ hZ1 hZ2 hz3
 go_wp2_with fail
 refine (ud HF).mono ?_
 rintro e X4 ⟨xs, hS, rfl, hb4⟩
 have l30 : w.heap.size < X3.heap.size := by omega
 have l31 : w.heap.size + 1 < X3.heap.size := by omega
 have z0 := (hb4.cell (p := ⟨w.heap.size, 0, none⟩) l30).trans q0'
 have z1 := (hb4.cell (p := ⟨w.heap.size + 1, 0, none⟩) l31).trans q1'
 have hr4 := (hb4.block _ hbz3).trans (ud HR3)
 have hB4 := (ud H).later ((ud HW3).trans (hb4.mono (ud HW3).size))
 have HR4 := zac hr4
 have HB4 := zac hB4
 have HX4 := zac ((ud HW3).trans (hb4.mono (ud HW3).size))
 have hsz4 := hb4.size
 have HSX := zac hS
 clear HF q0' q1' hr4 hB4 hb4 hS
 rcases foldT_mem (fun x y : ITsk c now => ordV c now tight x.1 y.1) xs with ⟨hnil, hf⟩ | ⟨g, hg, hf⟩
 ·rw [hf]
  dsimp only [Option.map_none, lookT, Option.isSome_none]
  have l42 : w.heap.size + 2 < X4.heap.size := by omega
  have hr5 := (Below.heap_alloc X4 (.cells #[.nilIface, int i64 0, int i64 0, int i64 0] 162) (w.heap.size + 2) l42).trans (ud HR4)
  have e0 : X4.cell? ⟨w.heap.size + 1 + 1, 0, none⟩ = some (int i64 0) := by rw [show w.heap.size + 1 + 1 = w.heap.size + 2 from rfl, zab (ud HR4)]; rfl
  have e1 : X4.cell? ⟨w.heap.size + 1 + 1, 1, none⟩ = some (int i64 0) := by rw [show w.heap.size + 1 + 1 = w.heap.size + 2 from rfl, zab (ud HR4)]; rfl
  have e2 : X4.cell? ⟨w.heap.size + 1 + 1, 2, none⟩ = some (int i64 0) := by rw [show w.heap.size + 1 + 1 = w.heap.size + 2 from rfl, zab (ud HR4)]; rfl
  have e3 : X4.cell? ⟨w.heap.size + 1 + 1, 3, none⟩ = some (int i64 0) := by rw [show w.heap.size + 1 + 1 = w.heap.size + 2 from rfl, zab (ud HR4)]; rfl
  have e4 : X4.cell? ⟨w.heap.size + 1 + 1, 4, none⟩ = some (int i64 0) := by rw [show w.heap.size + 1 + 1 = w.heap.size + 2 from rfl, zab (ud HR4)]; rfl
  have e5 : X4.cell? ⟨w.heap.size + 1 + 1, 5, none⟩ = some (int i64 0) := by rw [show w.heap.size + 1 + 1 = w.heap.size + 2 from rfl, zab (ud HR4)]; rfl
  have e6 : X4.cell? ⟨w.heap.size + 1 + 1, 6, none⟩ = some (int i64 0) := by rw [show w.heap.size + 1 + 1 = w.heap.size + 2 from rfl, zab (ud HR4)]; rfl
  have e7 : X4.cell? ⟨w.heap.size + 1 + 1, 7, none⟩ = some (int i64 0) := by rw [show w.heap.size + 1 + 1 = w.heap.size + 2 from rfl, zab (ud HR4)]; rfl
  have e8 : X4.cell? ⟨w.heap.size + 1 + 1, 8, none⟩ = some (int i64 0) := by rw [show w.heap.size + 1 + 1 = w.heap.size + 2 from rfl, zab (ud HR4)]; rfl
  have e9 : X4.cell? ⟨w.heap.size + 1 + 1, 9, none⟩ = some (int i64 0) := by rw [show w.heap.size + 1 + 1 = w.heap.size + 2 from rfl, zab (ud HR4)]; rfl
  have e10 : X4.cell? ⟨w.heap.size + 1 + 1, 10, none⟩ = some (int i64 0) := by rw [show w.heap.size + 1 + 1 = w.heap.size + 2 from rfl, zab (ud HR4)]; rfl
  have ef := fun j => zax (show X4.heap[w.heap.size + 1 + 1]? = _ from ud HR4) j
  have l43 : w.heap.size + 1 + 1 < X4.heap.size := l42
  have HR5 := zac hr5
  clear hr5 hf
  go_wp2_with fail
  have h11 := row11 (ud HR4) (int i64 0) (int i64 0) (int i64 0) (int i64 0) (int i64 0) (int i64 0) (int i64 0) (int i64 0) (int i64 0) (int i64 0) (int i64 0)
  have hf := (Below.heap_alloc _ (.cells #[.nilIface, int i64 0, int i64 0, int i64 0] 162) _ (zaa h11)).trans h11
  refine bodyPost_ret (zbh Tryz.results39 _ _ (w.heap.size + 2) _ _ _ _ _ rfl rfl hf Tryz.underlying51 rfl (by kernel_rfl)) rfl ?_
  left
  refine ⟨rfl, ((ud HX4).trans (below11 (by omega) (int i64 0) (int i64 0) (int i64 0) (int i64 0) (int i64 0) (int i64 0) (int i64 0) (int i64 0) (int i64 0) (int i64 0) (int i64 0))).alloc (Nat.le_trans (ud HX4).size (below11 (B := 0) (Nat.zero_le _) (int i64 0) (int i64 0) (int i64 0) (int i64 0) (int i64 0) (int i64 0) (int i64 0) (int i64 0) (int i64 0) (int i64 0) (int i64 0)).size) _, fun p hp => ?_⟩
  obtain ⟨zs, ⟨ps, hpp, rfl⟩, hxs⟩ := ud HSX
  rw [hnil] at hxs
  cases hfb : freeB QL now p.2 with
  | false => rfl
  | true =>
   have : iTsk c now hnow.1 p.2 ∈ (ps.map (fun p : Jk × Tsk => iTsk c now hnow.1 p.2)).filter (fun x => freeB QL now x.1) := List.mem_filter.2 ⟨List.mem_map.2 ⟨p, hpp.mem_iff.2 hp, rfl⟩, by rw [iTsk_val hnow.1 (hT p hp)]; exact hfb⟩
   rw [<- hxs] at this; simp at this
 ·rw [hf]
  dsimp only [Option.map_some, lookT, tskVal, Option.isSome_some]
  obtain ⟨x, hx⟩ := g
  have HPP : Hid (∃ p, p ∈ TL /\ p.2 = x /\ freeB QL now x = true) := by
   obtain ⟨zs, ⟨ps, hpp, rfl⟩, hxs⟩ := ud HSX
   rw [hxs] at hg
   obtain ⟨h1, h2⟩ := List.mem_filter.1 hg
   obtain ⟨p, hp, e⟩ := List.mem_map.1 h1
   have e2 := congrArg Subtype.val e
   rw [iTsk_val hnow.1 (hT p (hpp.mem_iff.1 hp))] at e2
   exact ⟨p, hpp.mem_iff.1 hp, e2, h2⟩
  have HNO : Hid (∀ q ∈ QL, q.2.job ≠ x.key) := fun q hq e => by
   obtain ⟨p, hp, hpx, hfr⟩ := ud HPP
   unfold freeB leasedB at hfr
   simp only [Bool.and_eq_true, Bool.not_eq_true', List.any_eq_false] at hfr
   exact hfr.2 q hq (by simpa [Lse.job] using e)
  have hB4 := ud HB4
  have hd := hB4.head
  have l40 : w.heap.size < X4.heap.size := by omega
  have l41 : w.heap.size + 1 < X4.heap.size := by omega
  have lb4 := hB4.lt
  have nb0 : ¬ b = w.heap.size := by omega
  have nb1 : ¬ b = w.heap.size + 1 := by omega
  have nb2 : ¬ w.heap.size = b := by omega
  have nb3 : ¬ w.heap.size + 1 = b := by omega
  have v0 : X4.cell? ⟨b, 0, none⟩ = some (int i64 c.s) := by rw [zab hd]; rfl
  have v1 : X4.cell? ⟨b, 1, none⟩ = some (int i64 c.le) := by rw [zab hd]; rfl
  have v2 : X4.cell? ⟨b, 2, none⟩ = some (int i64 c.la) := by rw [zab hd]; rfl
  have v3 : X4.cell? ⟨b, 3, none⟩ = some (int i64 c.wi) := by rw [zab hd]; rfl
  have v4 : X4.cell? ⟨b, 4, none⟩ = some (int i64 c.ke) := by rw [zab hd]; rfl
  have v5 : X4.cell? ⟨b, 5, none⟩ = some (int i64 c.qu) := by rw [zab hd]; rfl
  have v6 : X4.cell? ⟨b, 6, none⟩ = some (.slice a c.n cap) := by rw [zab hd]; rfl
  have v7 : X4.cell? ⟨b, 7, none⟩ = some (int i64 ep) := by rw [zab hd]; rfl
  have v8 : X4.cell? ⟨b, 8, none⟩ = some (int i64 num) := by rw [zab hd]; rfl
  have v9 : X4.cell? ⟨b, 9, none⟩ = some (.map (some tb)) := by rw [zab hd]; rfl
  have v10 : X4.cell? ⟨b, 10, none⟩ = some (.map (some qb)) := by rw [zab hd]; rfl
  have bf := fun j => zax hd j
  obtain ⟨hn1, hn2⟩ := hnum
  clear hf hd
  have hB5 := (hB4.setNum (num + 1)).later ((Below.refl _ _).alloc (Nat.le_refl _) (.cells #[.iface x.jt (.agg #[int i64 x.s.t, int i64 x.s.ser, int i64 x.s.win]), int i64 x.since, int i64 x.tries, int i64 x.rest] 162))
  have hZ5 := zbm (X4.setCell ⟨b, 8, none⟩ (int i64 (num + 1))) (.cells #[.iface x.jt (.agg #[int i64 x.s.t, int i64 x.s.ser, int i64 x.s.win]), int i64 x.since, int i64 x.tries, int i64 x.rest] 162)
  have hS5 : (X4.setCell ⟨b, 8, none⟩ (int i64 (num + 1))).heap.size = X4.heap.size := by simp
  rw [hS5] at hZ5
  have s0 : ((X4.setCell ⟨b, 8, none⟩ (int i64 (num + 1))).alloc (.cells #[.iface x.jt (.agg #[int i64 x.s.t, int i64 x.s.ser, int i64 x.s.win]), int i64 x.since, int i64 x.tries, int i64 x.rest] 162)).cell? ⟨w.heap.size, 0, none⟩ = some (.pointer (some ⟨b, 0, none⟩)) := by exact (((Below.refl _ _).alloc (Nat.le_refl _) _).cell (p := ⟨w.heap.size, 0, none⟩) (by rw [hS5]; exact l40)).trans ((zan nb2).trans z0)
  have s1 : ((X4.setCell ⟨b, 8, none⟩ (int i64 (num + 1))).alloc (.cells #[.iface x.jt (.agg #[int i64 x.s.t, int i64 x.s.ser, int i64 x.s.win]), int i64 x.since, int i64 x.tries, int i64 x.rest] 162)).cell? ⟨w.heap.size + 1, 0, none⟩ = some (int i64 now) := by exact (((Below.refl _ _).alloc (Nat.le_refl _) _).cell (p := ⟨w.heap.size + 1, 0, none⟩) (by rw [hS5]; exact l41)).trans ((zan nb3).trans z1)
  have s2 : ((X4.setCell ⟨b, 8, none⟩ (int i64 (num + 1))).alloc (.cells #[.iface x.jt (.agg #[int i64 x.s.t, int i64 x.s.ser, int i64 x.s.win]), int i64 x.since, int i64 x.tries, int i64 x.rest] 162)).cell? ⟨X4.heap.size, 0, none⟩ = some (.iface x.jt (.agg #[int i64 x.s.t, int i64 x.s.ser, int i64 x.s.win])) := by rw [show X4.heap.size = (X4.setCell ⟨b, 8, none⟩ (int i64 (num + 1))).heap.size from (by simp), zab (zag _ _)]; rfl
  have s3 : ((X4.setCell ⟨b, 8, none⟩ (int i64 (num + 1))).alloc (.cells #[.iface x.jt (.agg #[int i64 x.s.t, int i64 x.s.ser, int i64 x.s.win]), int i64 x.since, int i64 x.tries, int i64 x.rest] 162)).cell? ⟨X4.heap.size, 1, none⟩ = some (int i64 x.since) := by rw [show X4.heap.size = (X4.setCell ⟨b, 8, none⟩ (int i64 (num + 1))).heap.size from (by simp), zab (zag _ _)]; rfl
  have s4 : ((X4.setCell ⟨b, 8, none⟩ (int i64 (num + 1))).alloc (.cells #[.iface x.jt (.agg #[int i64 x.s.t, int i64 x.s.ser, int i64 x.s.win]), int i64 x.since, int i64 x.tries, int i64 x.rest] 162)).cell? ⟨X4.heap.size, 2, none⟩ = some (int i64 x.tries) := by rw [show X4.heap.size = (X4.setCell ⟨b, 8, none⟩ (int i64 (num + 1))).heap.size from (by simp), zab (zag _ _)]; rfl
  have s5 : ((X4.setCell ⟨b, 8, none⟩ (int i64 (num + 1))).alloc (.cells #[.iface x.jt (.agg #[int i64 x.s.t, int i64 x.s.ser, int i64 x.s.win]), int i64 x.since, int i64 x.tries, int i64 x.rest] 162)).cell? ⟨X4.heap.size, 3, none⟩ = some (int i64 x.rest) := by rw [show X4.heap.size = (X4.setCell ⟨b, 8, none⟩ (int i64 (num + 1))).heap.size from (by simp), zab (zag _ _)]; rfl
  have s6 : ((X4.setCell ⟨b, 8, none⟩ (int i64 (num + 1))).alloc (.cells #[.iface x.jt (.agg #[int i64 x.s.t, int i64 x.s.ser, int i64 x.s.win]), int i64 x.since, int i64 x.tries, int i64 x.rest] 162)).cell? ⟨b, 0, none⟩ = some (int i64 c.s) := by rw [zab hB5.head]; rfl
  have s7 : ((X4.setCell ⟨b, 8, none⟩ (int i64 (num + 1))).alloc (.cells #[.iface x.jt (.agg #[int i64 x.s.t, int i64 x.s.ser, int i64 x.s.win]), int i64 x.since, int i64 x.tries, int i64 x.rest] 162)).cell? ⟨b, 1, none⟩ = some (int i64 c.le) := by rw [zab hB5.head]; rfl
  have s8 : ((X4.setCell ⟨b, 8, none⟩ (int i64 (num + 1))).alloc (.cells #[.iface x.jt (.agg #[int i64 x.s.t, int i64 x.s.ser, int i64 x.s.win]), int i64 x.since, int i64 x.tries, int i64 x.rest] 162)).cell? ⟨b, 2, none⟩ = some (int i64 c.la) := by rw [zab hB5.head]; rfl
  have s9 : ((X4.setCell ⟨b, 8, none⟩ (int i64 (num + 1))).alloc (.cells #[.iface x.jt (.agg #[int i64 x.s.t, int i64 x.s.ser, int i64 x.s.win]), int i64 x.since, int i64 x.tries, int i64 x.rest] 162)).cell? ⟨b, 3, none⟩ = some (int i64 c.wi) := by rw [zab hB5.head]; rfl
  have s10 : ((X4.setCell ⟨b, 8, none⟩ (int i64 (num + 1))).alloc (.cells #[.iface x.jt (.agg #[int i64 x.s.t, int i64 x.s.ser, int i64 x.s.win]), int i64 x.since, int i64 x.tries, int i64 x.rest] 162)).cell? ⟨b, 4, none⟩ = some (int i64 c.ke) := by rw [zab hB5.head]; rfl
  have s11 : ((X4.setCell ⟨b, 8, none⟩ (int i64 (num + 1))).alloc (.cells #[.iface x.jt (.agg #[int i64 x.s.t, int i64 x.s.ser, int i64 x.s.win]), int i64 x.since, int i64 x.tries, int i64 x.rest] 162)).cell? ⟨b, 5, none⟩ = some (int i64 c.qu) := by rw [zab hB5.head]; rfl
  have s12 : ((X4.setCell ⟨b, 8, none⟩ (int i64 (num + 1))).alloc (.cells #[.iface x.jt (.agg #[int i64 x.s.t, int i64 x.s.ser, int i64 x.s.win]), int i64 x.since, int i64 x.tries, int i64 x.rest] 162)).cell? ⟨b, 6, none⟩ = some (.slice a c.n cap) := by rw [zab hB5.head]; rfl
  have s13 : ((X4.setCell ⟨b, 8, none⟩ (int i64 (num + 1))).alloc (.cells #[.iface x.jt (.agg #[int i64 x.s.t, int i64 x.s.ser, int i64 x.s.win]), int i64 x.since, int i64 x.tries, int i64 x.rest] 162)).cell? ⟨b, 7, none⟩ = some (int i64 ep) := by rw [zab hB5.head]; rfl
  have s14 : ((X4.setCell ⟨b, 8, none⟩ (int i64 (num + 1))).alloc (.cells #[.iface x.jt (.agg #[int i64 x.s.t, int i64 x.s.ser, int i64 x.s.win]), int i64 x.since, int i64 x.tries, int i64 x.rest] 162)).cell? ⟨b, 8, none⟩ = some (int i64 (num + 1)) := by rw [zab hB5.head]; rfl
  have s15 : ((X4.setCell ⟨b, 8, none⟩ (int i64 (num + 1))).alloc (.cells #[.iface x.jt (.agg #[int i64 x.s.t, int i64 x.s.ser, int i64 x.s.win]), int i64 x.since, int i64 x.tries, int i64 x.rest] 162)).cell? ⟨b, 10, none⟩ = some (.map (some qb)) := by rw [zab hB5.head]; rfl
  have hrF := (Below.heap_alloc (X4.setCell ⟨b, 8, none⟩ (int i64 (num + 1))) (.cells #[.iface x.jt (.agg #[int i64 x.s.t, int i64 x.s.ser, int i64 x.s.win]), int i64 x.since, int i64 x.tries, int i64 x.rest] 162) (w.heap.size + 2) (by rw [hS5]; omega)).trans ((zay (by omega)).trans (ud HR4))
  have HRF := zac hrF
  clear hrF
  have HB5 := zac hB5
  have HZ5 := zac hZ5
  have HTW : Hid ((⟨ep, num + 1⟩ : Tok).wf) := ⟨hep, by unfold zdg; dsimp only; omega⟩
  have HKO := fun W => zac (keyOf_any x W)
  have HLE := fun W => zac (llease_any c a cap W)
  have hfl := (ud HB4).foot_lt
  have ne0 : ¬ w.heap.size = qb := fun e => by have := (ud H).foot_lt qb (.inr (.inr rfl)); omega
  have ne1 : ¬ w.heap.size + 1 = qb := fun e => by have := (ud H).foot_lt qb (.inr (.inr rfl)); omega
  have ne2 : ¬ X4.heap.size = qb := fun e => by have := hfl qb (.inr (.inr rfl)); omega
  have ne3 : ¬ b = qb := fun e => (ud HB4).qb_ne e.symm
  have ne4 : ¬ w.heap.size + 2 = qb := fun e => by have := (ud H).foot_lt qb (.inr (.inr rfl)); omega
  have hroom : QL.length < maxLen := by simp only [maxLen]; omega
  obtain ⟨hle1, hle2⟩ := hc.le
  have hnw1 := hnow.1
  have hnw2 := hnow.2
  have hwr : IntKind.i64.wrap (now + c.le) = now + c.le := by rw [IntKind.wrap_i64]; omega
  clear hB4 hB5 hS5 hZ5 hfl
  go_wp2_with fail
  generalize hXF : ((X4.setCell ⟨b, 8, none⟩ (int i64 (num + 1))).alloc (.cells #[.iface x.jt (.agg #[int i64 x.s.t, int i64 x.s.ser, int i64 x.s.win]), int i64 x.since, int i64 x.tries, int i64 x.rest] 162)) = XF at *
  have HXF := zac hXF
  have hz5 : XF.heap.size = X4.heap.size + 1 := ud HZ5
  have l05 : w.heap.size < XF.heap.size := by omega
  have l15 : w.heap.size + 1 < XF.heap.size := by omega
  have l25 : X4.heap.size < XF.heap.size := by omega
  have l35 : b < XF.heap.size := by omega
  clear hXF hz5 v0 v1 v2 v3 v4 v5 v6 v7 v8 v9 v10 z0 z1 bf
  go_region_held3 (fun w' => w'.cell? ⟨w.heap.size, 0, none⟩ = some (.pointer (some ⟨b, 0, none⟩)) /\ w'.cell? ⟨w.heap.size + 1, 0, none⟩ = some (int i64 now) /\ w'.cell? ⟨X4.heap.size, 0, none⟩ = some (.iface x.jt (.agg #[int i64 x.s.t, int i64 x.s.ser, int i64 x.s.win])) /\ w'.cell? ⟨X4.heap.size, 1, none⟩ = some (int i64 x.since) /\ w'.cell? ⟨X4.heap.size, 2, none⟩ = some (int i64 x.tries) /\ w'.cell? ⟨X4.heap.size, 3, none⟩ = some (int i64 x.rest) /\ w'.cell? ⟨b, 0, none⟩ = some (int i64 c.s) /\ w'.cell? ⟨b, 1, none⟩ = some (int i64 c.le) /\ w'.cell? ⟨b, 2, none⟩ = some (int i64 c.la) /\ w'.cell? ⟨b, 3, none⟩ = some (int i64 c.wi) /\ w'.cell? ⟨b, 4, none⟩ = some (int i64 c.ke) /\ w'.cell? ⟨b, 5, none⟩ = some (int i64 c.qu) /\ w'.cell? ⟨b, 6, none⟩ = some (.slice a c.n cap) /\ w'.cell? ⟨b, 7, none⟩ = some (int i64 ep) /\ w'.cell? ⟨b, 8, none⟩ = some (int i64 (num + 1)) /\ w'.cell? ⟨b, 10, none⟩ = some (.map (some qb))) (go_keep) (first
   | (go_at_call 87; (with_reducible refine (ud (HKO _)).mono ?_); rintro e V1 ⟨rfl, hv0⟩; have hv : Below XF.heap.size XF V1 := ⟨hv0.os, hv0.tape, hv0.output, hv0.size, hv0.block⟩; clear hv0; have p0 : V1.cell? ⟨w.heap.size, 0, none⟩ = some (.pointer (some ⟨b, 0, none⟩)) := (hv.cell (p := ⟨w.heap.size, 0, none⟩) l05).trans s0; have p1 : V1.cell? ⟨w.heap.size + 1, 0, none⟩ = some (int i64 now) := (hv.cell (p := ⟨w.heap.size + 1, 0, none⟩) l15).trans s1; have p2 : V1.cell? ⟨X4.heap.size, 0, none⟩ = some (.iface x.jt (.agg #[int i64 x.s.t, int i64 x.s.ser, int i64 x.s.win])) := (hv.cell (p := ⟨X4.heap.size, 0, none⟩) l25).trans s2; have p3 : V1.cell? ⟨X4.heap.size, 1, none⟩ = some (int i64 x.since) := (hv.cell (p := ⟨X4.heap.size, 1, none⟩) l25).trans s3; have p4 : V1.cell? ⟨X4.heap.size, 2, none⟩ = some (int i64 x.tries) := (hv.cell (p := ⟨X4.heap.size, 2, none⟩) l25).trans s4; have p5 : V1.cell? ⟨X4.heap.size, 3, none⟩ = some (int i64 x.rest) := (hv.cell (p := ⟨X4.heap.size, 3, none⟩) l25).trans s5; have p6 : V1.cell? ⟨b, 0, none⟩ = some (int i64 c.s) := (hv.cell (p := ⟨b, 0, none⟩) l35).trans s6; have p7 : V1.cell? ⟨b, 1, none⟩ = some (int i64 c.le) := (hv.cell (p := ⟨b, 1, none⟩) l35).trans s7; have p8 : V1.cell? ⟨b, 2, none⟩ = some (int i64 c.la) := (hv.cell (p := ⟨b, 2, none⟩) l35).trans s8; have p9 : V1.cell? ⟨b, 3, none⟩ = some (int i64 c.wi) := (hv.cell (p := ⟨b, 3, none⟩) l35).trans s9; have p10 : V1.cell? ⟨b, 4, none⟩ = some (int i64 c.ke) := (hv.cell (p := ⟨b, 4, none⟩) l35).trans s10; have p11 : V1.cell? ⟨b, 5, none⟩ = some (int i64 c.qu) := (hv.cell (p := ⟨b, 5, none⟩) l35).trans s11; have p12 : V1.cell? ⟨b, 6, none⟩ = some (.slice a c.n cap) := (hv.cell (p := ⟨b, 6, none⟩) l35).trans s12; have p13 : V1.cell? ⟨b, 7, none⟩ = some (int i64 ep) := (hv.cell (p := ⟨b, 7, none⟩) l35).trans s13; have p14 : V1.cell? ⟨b, 8, none⟩ = some (int i64 (num + 1)) := (hv.cell (p := ⟨b, 8, none⟩) l35).trans s14; have p15 : V1.cell? ⟨b, 10, none⟩ = some (.map (some qb)) := (hv.cell (p := ⟨b, 10, none⟩) l35).trans s15; have l06 := Nat.lt_of_lt_of_le l05 hv.size; have l16 := Nat.lt_of_lt_of_le l15 hv.size; have l26 := Nat.lt_of_lt_of_le l25 hv.size; have l36 := Nat.lt_of_lt_of_le l35 hv.size; have HV1 := zac hv; clear hv HKO)
   | (go_at_call 88; (with_reducible refine (ud (HLE _)).mono ?_); rintro e V2 ⟨rfl, hv0⟩; have hv : Below V1.heap.size V1 V2 := ⟨hv0.os, hv0.tape, hv0.output, hv0.size, hv0.block⟩; clear hv0; have r0 : V2.cell? ⟨w.heap.size, 0, none⟩ = some (.pointer (some ⟨b, 0, none⟩)) := (hv.cell (p := ⟨w.heap.size, 0, none⟩) l06).trans p0; have r1 : V2.cell? ⟨w.heap.size + 1, 0, none⟩ = some (int i64 now) := (hv.cell (p := ⟨w.heap.size + 1, 0, none⟩) l16).trans p1; have r2 : V2.cell? ⟨X4.heap.size, 0, none⟩ = some (.iface x.jt (.agg #[int i64 x.s.t, int i64 x.s.ser, int i64 x.s.win])) := (hv.cell (p := ⟨X4.heap.size, 0, none⟩) l26).trans p2; have r3 : V2.cell? ⟨X4.heap.size, 1, none⟩ = some (int i64 x.since) := (hv.cell (p := ⟨X4.heap.size, 1, none⟩) l26).trans p3; have r4 : V2.cell? ⟨X4.heap.size, 2, none⟩ = some (int i64 x.tries) := (hv.cell (p := ⟨X4.heap.size, 2, none⟩) l26).trans p4; have r5 : V2.cell? ⟨X4.heap.size, 3, none⟩ = some (int i64 x.rest) := (hv.cell (p := ⟨X4.heap.size, 3, none⟩) l26).trans p5; have r6 : V2.cell? ⟨b, 0, none⟩ = some (int i64 c.s) := (hv.cell (p := ⟨b, 0, none⟩) l36).trans p6; have r7 : V2.cell? ⟨b, 1, none⟩ = some (int i64 c.le) := (hv.cell (p := ⟨b, 1, none⟩) l36).trans p7; have r8 : V2.cell? ⟨b, 2, none⟩ = some (int i64 c.la) := (hv.cell (p := ⟨b, 2, none⟩) l36).trans p8; have r9 : V2.cell? ⟨b, 3, none⟩ = some (int i64 c.wi) := (hv.cell (p := ⟨b, 3, none⟩) l36).trans p9; have r10 : V2.cell? ⟨b, 4, none⟩ = some (int i64 c.ke) := (hv.cell (p := ⟨b, 4, none⟩) l36).trans p10; have r11 : V2.cell? ⟨b, 5, none⟩ = some (int i64 c.qu) := (hv.cell (p := ⟨b, 5, none⟩) l36).trans p11; have r12 : V2.cell? ⟨b, 6, none⟩ = some (.slice a c.n cap) := (hv.cell (p := ⟨b, 6, none⟩) l36).trans p12; have r13 : V2.cell? ⟨b, 7, none⟩ = some (int i64 ep) := (hv.cell (p := ⟨b, 7, none⟩) l36).trans p13; have r14 : V2.cell? ⟨b, 8, none⟩ = some (int i64 (num + 1)) := (hv.cell (p := ⟨b, 8, none⟩) l36).trans p14; have r15 : V2.cell? ⟨b, 10, none⟩ = some (.map (some qb)) := (hv.cell (p := ⟨b, 10, none⟩) l36).trans p15; have l07 := Nat.lt_of_lt_of_le l06 hv.size; have l17 := Nat.lt_of_lt_of_le l16 hv.size; have l27 := Nat.lt_of_lt_of_le l26 hv.size; have l37 := Nat.lt_of_lt_of_le l36 hv.size; have hV2 := (ud HV1).trans (hv.mono (ud HV1).size); obtain ⟨o, hrun, hm, hk⟩ := store_lse ((ud HB5).later hV2).leases hroom (ud HTW) ⟨x.kd, x.s, slot, now + c.le⟩; dsimp only at hrun; obtain ⟨U, hU⟩ : ∃ U, setBlock V2 qb o = U := ⟨_, rfl⟩; rw [hU] at hrun hm hk; have u0 : U.cell? ⟨w.heap.size, 0, none⟩ = some (.pointer (some ⟨b, 0, none⟩)) := (zbc (i := 0) hk ne0 l07).trans r0; have u1 : U.cell? ⟨w.heap.size + 1, 0, none⟩ = some (int i64 now) := (zbc (i := 0) hk ne1 l17).trans r1; have u2 : U.cell? ⟨X4.heap.size, 0, none⟩ = some (.iface x.jt (.agg #[int i64 x.s.t, int i64 x.s.ser, int i64 x.s.win])) := (zbc (i := 0) hk ne2 l27).trans r2; have u3 : U.cell? ⟨X4.heap.size, 1, none⟩ = some (int i64 x.since) := (zbc (i := 1) hk ne2 l27).trans r3; have u4 : U.cell? ⟨X4.heap.size, 2, none⟩ = some (int i64 x.tries) := (zbc (i := 2) hk ne2 l27).trans r4; have u5 : U.cell? ⟨X4.heap.size, 3, none⟩ = some (int i64 x.rest) := (zbc (i := 3) hk ne2 l27).trans r5; have u6 : U.cell? ⟨b, 0, none⟩ = some (int i64 c.s) := (zbc (i := 0) hk ne3 l37).trans r6; have u7 : U.cell? ⟨b, 1, none⟩ = some (int i64 c.le) := (zbc (i := 1) hk ne3 l37).trans r7; have u8 : U.cell? ⟨b, 2, none⟩ = some (int i64 c.la) := (zbc (i := 2) hk ne3 l37).trans r8; have u9 : U.cell? ⟨b, 3, none⟩ = some (int i64 c.wi) := (zbc (i := 3) hk ne3 l37).trans r9; have u10 : U.cell? ⟨b, 4, none⟩ = some (int i64 c.ke) := (zbc (i := 4) hk ne3 l37).trans r10; have u11 : U.cell? ⟨b, 5, none⟩ = some (int i64 c.qu) := (zbc (i := 5) hk ne3 l37).trans r11; have u12 : U.cell? ⟨b, 6, none⟩ = some (.slice a c.n cap) := (zbc (i := 6) hk ne3 l37).trans r12; have u13 : U.cell? ⟨b, 7, none⟩ = some (int i64 ep) := (zbc (i := 7) hk ne3 l37).trans r13; have u14 : U.cell? ⟨b, 8, none⟩ = some (int i64 (num + 1)) := (zbc (i := 8) hk ne3 l37).trans r14; have u15 : U.cell? ⟨b, 10, none⟩ = some (.map (some qb)) := (zbc (i := 10) hk ne3 l37).trans r15; have HV2 := zac hV2; have HMU := zac hm; have HKU := zac hk; clear hv hV2 hm hk hU HLE))
  have hBU := ((ud HB5).later (ud HV2)).putLeases (ud HMU) (ud HKU)
  have hqnd := (ud H).leases.nodup
  have HTL := zac (tell_any hBU x ⟨ep, num + 1⟩ ⟨x.kd, x.s, slot, now + c.le⟩ (zbj (by rw [getM_put hqnd, if_pos rfl])) rfl (fun q hq e => by
   rcases zef hq with rfl | ⟨hq, _⟩
   ·rfl
   ·exact absurd e (ud HNO q hq)))
  have hrV := ((ud HV2).block (w.heap.size + 2) (by omega)).trans (ud HRF)
  have hrU := (ud HKU).heap hrV ne4
  have HRU := zac hrU
  have HBU := zac hBU
  have lu2 := Nat.lt_of_lt_of_le l27 (ud HKU).size
  have lu3 := Nat.lt_of_lt_of_le l37 (ud HKU).size
  have lu0 := Nat.lt_of_lt_of_le l07 (ud HKU).size
  clear hBU hrV hrU hqnd
  go_wp2_with (first | (go_at_call 89; refine (ud HTL).mono ?_; rintro e T ⟨rfl, hT9⟩; have hrT := (hT9.block _ (zaa (ud HRU))).trans (ud HRU); have e0 : T.cell? ⟨w.heap.size + 1 + 1, 0, none⟩ = some (int i64 0) := (by rw [show w.heap.size + 1 + 1 = w.heap.size + 2 from rfl, zab hrT]; rfl); have e1 : T.cell? ⟨w.heap.size + 1 + 1, 1, none⟩ = some (int i64 0) := (by rw [show w.heap.size + 1 + 1 = w.heap.size + 2 from rfl, zab hrT]; rfl); have e2 : T.cell? ⟨w.heap.size + 1 + 1, 2, none⟩ = some (int i64 0) := (by rw [show w.heap.size + 1 + 1 = w.heap.size + 2 from rfl, zab hrT]; rfl); have e3 : T.cell? ⟨w.heap.size + 1 + 1, 3, none⟩ = some (int i64 0) := (by rw [show w.heap.size + 1 + 1 = w.heap.size + 2 from rfl, zab hrT]; rfl); have e4 : T.cell? ⟨w.heap.size + 1 + 1, 4, none⟩ = some (int i64 0) := (by rw [show w.heap.size + 1 + 1 = w.heap.size + 2 from rfl, zab hrT]; rfl); have e5 : T.cell? ⟨w.heap.size + 1 + 1, 5, none⟩ = some (int i64 0) := (by rw [show w.heap.size + 1 + 1 = w.heap.size + 2 from rfl, zab hrT]; rfl); have e6 : T.cell? ⟨w.heap.size + 1 + 1, 6, none⟩ = some (int i64 0) := (by rw [show w.heap.size + 1 + 1 = w.heap.size + 2 from rfl, zab hrT]; rfl); have e7 : T.cell? ⟨w.heap.size + 1 + 1, 7, none⟩ = some (int i64 0) := (by rw [show w.heap.size + 1 + 1 = w.heap.size + 2 from rfl, zab hrT]; rfl); have e8 : T.cell? ⟨w.heap.size + 1 + 1, 8, none⟩ = some (int i64 0) := (by rw [show w.heap.size + 1 + 1 = w.heap.size + 2 from rfl, zab hrT]; rfl); have e9 : T.cell? ⟨w.heap.size + 1 + 1, 9, none⟩ = some (int i64 0) := (by rw [show w.heap.size + 1 + 1 = w.heap.size + 2 from rfl, zab hrT]; rfl); have e10 : T.cell? ⟨w.heap.size + 1 + 1, 10, none⟩ = some (int i64 0) := (by rw [show w.heap.size + 1 + 1 = w.heap.size + 2 from rfl, zab hrT]; rfl); have ef := fun j => zax (show T.heap[w.heap.size + 1 + 1]? = _ from hrT) j; have lT : w.heap.size + 1 + 1 < T.heap.size := zaa hrT; have HRT := zac hrT; have HT9 := zac hT9; clear hrT hT9))
  have hf := row11 (ud HRT) (int i64 x.kd) (int i64 x.s.t) (int i64 x.s.ser) (int i64 x.s.win) (int i64 x.since) (int i64 x.tries) (int i64 x.rest) (int i64 ep) (int i64 (num + 1)) (int i64 slot) (int i64 (now + c.le))
  refine bodyPost_ret (zbh Tryz.results39 _ _ (w.heap.size + 2) _ _ _ _ _ rfl rfl hf Tryz.underlying51 rfl (by kernel_rfl)) rfl ?_
  right
  obtain ⟨p, hp, hpx, hfr⟩ := ud HPP
  subst hpx
  have kT := kept11 (w := T) (g := w.heap.size + 2) (int i64 p.2.kd) (int i64 p.2.s.t) (int i64 p.2.s.ser) (int i64 p.2.s.win) (int i64 p.2.since) (int i64 p.2.tries) (int i64 p.2.rest) (int i64 ep) (int i64 (num + 1)) (int i64 slot) (int i64 (now + c.le))
  have k0 := zaj.of_below (f := fun k => k = b \/ k = qb) (ud HX4)
  have kF : zaj (fun k => k = b) X4 XF := by rw [<- ud HXF]; exact (zae (zaj.refl (fun k => k = b) X4) rfl).alloc _
  have k1 := k0.trans (kF.mono (fun k _ e => .inl e)) (fun _ _ e => e)
  have k2 := k1.trans (zaj.of_below (f := fun k => k = b \/ k = qb) (ud HV2)) (fun _ _ e => e)
  have k3 := k2.trans ((ud HKU).mono (fun k _ e => .inr e)) (fun _ _ e => e)
  have k4 := k3.trans (zaj.of_below (f := fun k => k = b \/ k = qb) (ud HT9)) (fun _ _ e => e)
  exact ⟨p, hp, hfr, rfl, ((ud HBU).later (ud HT9)).kept kT (fun k hk e => by have := (ud H).foot_lt k hk; omega), k4.trans kT (fun k hk e => by omega)⟩
set_option maxRecDepth 20000 in
set_option maxHeartbeats 4000000 in
theorem commit_Roll {w : World} {i : Ids} {c : Cf} {ep : Int} {m : MS} (h : zat w i c ep m) (hc : c.ok) (t : Tok) (ht : t.wf) {g : Lse} (hg : zbq m.QL t = some g) (hj : g.job.wf) (s : Sg) (since tries rest : Int) (hx : zbq m.TL g.job = some ⟨true, s, since, tries, rest⟩) (hs : inR c s) (k : Nat) (hk : s.t = k) (hlen : m.L.length <= 1000) (hgl : m.Gl.length <= 1000000000)
  (hL2 : ∀ p ∈ zeg m.L s ⟨3, zcd (zcf c m.L s.ser s.win k)⟩, inR c p.1) (hlen2 : (zeg m.L s ⟨3, zcd (zcf c m.L s.ser s.win k)⟩).length <= 2000) (hnow : 0 <= m.now /\ m.now <= 100000) (htl : m.TL.length <= 50000) :
  Calls Tryz.prog 18 #[.pointer (some ⟨i.x, 0, none⟩), .agg #[int i64 t.ep, int i64 t.num]] w fun e w' => e = .returned (int i64 0) /\ ∃ TL', zat w' i c ep { m with L := zeg m.L s ⟨3, zcd (zcf c m.L s.ser s.win k)⟩, Gl := m.Gl, TL := TL', QL := zby m.QL t } /\ zaj (zbx i) w w' /\ zey c { m with L := zeg m.L s ⟨3, zcd (zcf c m.L s.ser s.win k)⟩, Gl := m.Gl, TL := zby m.TL g.job, QL := zby m.QL t } TL' := by
 have HDOX := fun (W : World) (hW : zat W i c ep m) => zac (doR_any hW hc s hs k hk (by omega))
 generalize zeg m.L s ⟨3, zcd (zcf c m.L s.ser s.win k)⟩ = L2 at *
 clear hk
 have hba : Below w.heap.size w (w.alloc (.cells #[int i64 t.ep, int i64 t.num] 49)) := (Below.refl _ _).alloc (Nat.le_refl _) _
 have q0 := zag w (.cells #[int i64 t.ep, int i64 t.num] 49)
 have qz := zbm w (.cells #[int i64 t.ep, int i64 t.num] 49)
 have hX := h.later hba
 obtain ⟨-, -, -, -, -, -, -, -, c8, -, c10⟩ := hX.cells
 have hxl := hX.lt
 have hql := zaa q0
 have k0 : (w.alloc (.cells #[int i64 t.ep, int i64 t.num] 49)).cell? ⟨w.heap.size, 0, none⟩ = some (int i64 t.ep) := by rw [zab q0]; rfl
 have k1 : (w.alloc (.cells #[int i64 t.ep, int i64 t.num] 49)).cell? ⟨w.heap.size, 1, none⟩ = some (int i64 t.num) := by rw [zab q0]; rfl
 have hkw : (⟨(zeh (zbq m.QL t)).kd, (zeh (zbq m.QL t)).s⟩ : Jk).wf := by rw [hg]; exact hj
 have HL : ∀ W, Below w.heap.size w W -> Hid (Calls Tryz.prog 41 #[.pointer (some ⟨i.b, 0, none⟩), .agg #[int i64 t.ep, int i64 t.num]] W fun e w' => e = .returned (.tuple #[.iface 175 (.agg #[int i64 s.t, int i64 s.ser, int i64 s.win]), .bool true]) /\ Below W.heap.size W w') := fun W hW => by
  have := leasedT_any ((h.later (w' := W) hW).board) t ht hkw
  rw [hg] at this
  have e1 : zbq m.TL ⟨(zeh (some g)).kd, (zeh (some g)).s⟩ = some ⟨true, s, since, tries, rest⟩ := hx
  rw [e1] at this
  exact this
 have HBA := zac hba
 have QZ := zac qz
 have H := zac h
 have Q0 := zac q0
 have HG := zac hg
 have HX9 := zac hx
 clear h hX hba q0 qz hkw hg hx
 go_enter Tryz.func18, Tryz.ntmps18
 go_wp2_with fail
 have p1 : w.heap.size < w.heap.size + 1 := by omega
 have p2 : i.x < w.heap.size + 1 := by have := ud QZ; omega
 generalize (w.alloc (.cells #[int i64 t.ep, int i64 t.num] 49)) = X at *
 generalize hN : w.heap.size + 1 = N at *
 have hne : Nonempty (zbg N X) := zbg.some _ _
 have hlc := fun (u : zbg N X) b o h => u.cell b o h
 have hNX : N <= X.heap.size := by rw [ud QZ]; exact Nat.le_refl _
 have HNX := zac hNX
 have HNL : Hid (w.heap.size <= N) := by show w.heap.size <= N; omega
 have HN := zac hN
 clear hNX hN
 refine zak N (by kernel_rfl) (by kernel_rfl) ?_
 repeat (go_big_quiet_step (first
  | (go_at_call 41; exact Calls.later (ud HNX) (ud (HL _ ((ud HBA).trans (Below.mono (Subtype.property _) (ud HNL))))))))
 refine wpQuiet_nil ?_
 rintro ⟨w1, hb1⟩
 clear hlc hne
 dsimp only
 have hb2 := (ud HBA).trans (hb1.mono (ud HNL))
 have HM1 := zac ((ud H).later hb2)
 have HB2 := zac hb2
 have hq1 := (hb1.block _ (show w.heap.size < N by have := ud HN; omega)).trans (ud Q0)
 have HQ1 := zac hq1
 have HDO := HDOX w1 (ud HM1)
 clear HDOX
 clear k0 k1 c10 hb1 hb2 hq1 HL
 go_wp2_with (first | (go_at_call 42; refine (ud HDO).mono ?_; rintro e V1 ⟨rfl, hM1, hK1⟩; have HV1 := zac hM1; have HK1 := zac hK1; clear hM1 hK1))
 have hM2 := ud HV1
 obtain ⟨-, -, -, -, -, -, -, -, -, -, d10⟩ := hM2.cells
 have hxV := hM2.lt
 have hfl := (ud H).foot_lt
 have hqV : V1.heap[w.heap.size]? = some (.cells #[int i64 t.ep, int i64 t.num] 49 (0, 0)) := (ud HK1).heap (ud HQ1) (fun e => by have h1 := hfl i.lb (.inr (.inl (.inr (.inr (.inl rfl))))); have h2 := hfl i.gb (.inr (.inl (.inr (.inr (.inr rfl))))); omega)
 have t0 : V1.cell? ⟨w.heap.size, 0, none⟩ = some (int i64 t.ep) := by rw [zab hqV]; rfl
 have t1 : V1.cell? ⟨w.heap.size, 1, none⟩ = some (int i64 t.num) := by rw [zab hqV]; rfl
 have hqVl := zaa hqV
 have HDN := zac (done_any ((hM2.later (Below.refl _ _).drew).board) t ht (ud HG) hj)
 clear hM2 hqV hfl
 refine zbd 5 (by kernel_rfl) (by kernel_rfl) ?_
 simp only [List.take_succ_cons, List.take_zero, List.drop_succ_cons, List.drop_zero]
 repeat still_step
 refine wpStill_nil ?_
 go_wp2_with (first | (go_at_call 43; refine (ud HDN).mono ?_; rintro e V2 ⟨rfl, hB2, hK2⟩; have HV2 := zac hB2; have HK2 := zac hK2; clear hB2 hK2))
 have hkb : zaj (bfoot i.b i.tb i.qb) V1 V2 := ((zaj.refl (bfoot i.b i.tb i.qb) V1).drew).trans ((ud HK2).mono (fun k _ e => .inr e)) (fun _ _ e => e)
 have hM3 := (ud HV1).putBoard (ud HV2) hkb
 have HKB := zac hkb
 have HPO := zac (post_any hM3 hc hL2 hlen2 hnow (by have := length_delM_le (L := m.TL) (a := g.job); show (zby m.TL g.job).length <= 50000; omega))
 clear hkb hM3
 go_wp2_with (first | (go_at_call 44; refine (ud HPO).mono ?_; rintro e V3 ⟨rfl, TL', hM4, hK4, hP4⟩; have HV3 := zac hM4; have HK3 := zac hK4; have HP3 := zac hP4; clear hM4 hK4 hP4))
 go_ret
 have k1 : zaj (zbx i) w V1 := (zaj.of_below (f := zbx i) (ud HB2)).trans ((ud HK1).mono (fun q _ e => .inr (.inl (.inr (.inr (.inl e)))))) (fun _ _ e => e)
 have k2 := k1.trans ((ud HKB).mono (fun q _ e => .inr (.inr e))) (fun _ _ e => e)
 have k3 := k2.trans ((ud HK3).mono (fun q _ e => .inr (.inr (.inr (.inl e))))) (fun _ _ e => e)
 exact ⟨rfl, TL', ud HV3, k3, ud HP3⟩
set_option maxRecDepth 20000 in
set_option maxHeartbeats 4000000 in
theorem commit_Reclaim {w : World} {i : Ids} {c : Cf} {ep : Int} {m : MS} (h : zat w i c ep m) (hc : c.ok) (t : Tok) (ht : t.wf) {g : Lse} (hg : zbq m.QL t = some g) (hj : g.job.wf) (s : Sg) (since tries rest : Int) (hx : zbq m.TL g.job = some ⟨false, s, since, tries, rest⟩) (hs : inR c s) (hlen : m.L.length <= 1000) (hgl : m.Gl.length <= 1000000000)
  (hL2 : ∀ p ∈ zby m.L s, inR c p.1) (hlen2 : (zby m.L s).length <= 2000) (hnow : 0 <= m.now /\ m.now <= 100000) (htl : m.TL.length <= 50000) :
  Calls Tryz.prog 18 #[.pointer (some ⟨i.x, 0, none⟩), .agg #[int i64 t.ep, int i64 t.num]] w fun e w' => e = .returned (int i64 0) /\ ∃ TL', zat w' i c ep { m with L := zby m.L s, Gl := zdz m.Gl s (), TL := TL', QL := zby m.QL t } /\ zaj (zbx i) w w' /\ zey c { m with L := zby m.L s, Gl := zdz m.Gl s (), TL := zby m.TL g.job, QL := zby m.QL t } TL' := by
 have HDOX := fun (W : World) (hW : zat W i c ep m) => zac (doC_any hW s hs.1 hgl)
 generalize zby m.L s = L2 at *
 generalize zdz m.Gl s () = G2 at *
 have hba : Below w.heap.size w (w.alloc (.cells #[int i64 t.ep, int i64 t.num] 49)) := (Below.refl _ _).alloc (Nat.le_refl _) _
 have q0 := zag w (.cells #[int i64 t.ep, int i64 t.num] 49)
 have qz := zbm w (.cells #[int i64 t.ep, int i64 t.num] 49)
 have hX := h.later hba
 obtain ⟨-, -, -, -, -, -, -, -, c8, -, c10⟩ := hX.cells
 have hxl := hX.lt
 have hql := zaa q0
 have k0 : (w.alloc (.cells #[int i64 t.ep, int i64 t.num] 49)).cell? ⟨w.heap.size, 0, none⟩ = some (int i64 t.ep) := by rw [zab q0]; rfl
 have k1 : (w.alloc (.cells #[int i64 t.ep, int i64 t.num] 49)).cell? ⟨w.heap.size, 1, none⟩ = some (int i64 t.num) := by rw [zab q0]; rfl
 have hkw : (⟨(zeh (zbq m.QL t)).kd, (zeh (zbq m.QL t)).s⟩ : Jk).wf := by rw [hg]; exact hj
 have HL : ∀ W, Below w.heap.size w W -> Hid (Calls Tryz.prog 41 #[.pointer (some ⟨i.b, 0, none⟩), .agg #[int i64 t.ep, int i64 t.num]] W fun e w' => e = .returned (.tuple #[.iface 177 (.agg #[int i64 s.t, int i64 s.ser, int i64 s.win]), .bool true]) /\ Below W.heap.size W w') := fun W hW => by
  have := leasedT_any ((h.later (w' := W) hW).board) t ht hkw
  rw [hg] at this
  have e1 : zbq m.TL ⟨(zeh (some g)).kd, (zeh (some g)).s⟩ = some ⟨false, s, since, tries, rest⟩ := hx
  rw [e1] at this
  exact this
 have HBA := zac hba
 have QZ := zac qz
 have H := zac h
 have Q0 := zac q0
 have HG := zac hg
 have HX9 := zac hx
 clear h hX hba q0 qz hkw hg hx
 go_enter Tryz.func18, Tryz.ntmps18
 go_wp2_with fail
 have p1 : w.heap.size < w.heap.size + 1 := by omega
 have p2 : i.x < w.heap.size + 1 := by have := ud QZ; omega
 generalize (w.alloc (.cells #[int i64 t.ep, int i64 t.num] 49)) = X at *
 generalize hN : w.heap.size + 1 = N at *
 have hne : Nonempty (zbg N X) := zbg.some _ _
 have hlc := fun (u : zbg N X) b o h => u.cell b o h
 have hNX : N <= X.heap.size := by rw [ud QZ]; exact Nat.le_refl _
 have HNX := zac hNX
 have HNL : Hid (w.heap.size <= N) := by show w.heap.size <= N; omega
 have HN := zac hN
 clear hNX hN
 refine zak N (by kernel_rfl) (by kernel_rfl) ?_
 repeat (go_big_quiet_step (first
  | (go_at_call 41; exact Calls.later (ud HNX) (ud (HL _ ((ud HBA).trans (Below.mono (Subtype.property _) (ud HNL))))))))
 refine wpQuiet_nil ?_
 rintro ⟨w1, hb1⟩
 clear hlc hne
 dsimp only
 have hb2 := (ud HBA).trans (hb1.mono (ud HNL))
 have HM1 := zac ((ud H).later hb2)
 have HB2 := zac hb2
 have hq1 := (hb1.block _ (show w.heap.size < N by have := ud HN; omega)).trans (ud Q0)
 have HQ1 := zac hq1
 have HDO := HDOX w1 (ud HM1)
 clear HDOX
 clear k0 k1 c10 hb1 hb2 hq1 HL
 go_wp2_with (first | (go_at_call 42; refine (ud HDO).mono ?_; rintro e V1 ⟨rfl, hM1, hK1⟩; have HV1 := zac hM1; have HK1 := zac hK1; clear hM1 hK1))
 have hM2 := ud HV1
 obtain ⟨-, -, -, -, -, -, -, -, -, -, d10⟩ := hM2.cells
 have hxV := hM2.lt
 have hfl := (ud H).foot_lt
 have hqV : V1.heap[w.heap.size]? = some (.cells #[int i64 t.ep, int i64 t.num] 49 (0, 0)) := (ud HK1).heap (ud HQ1) (fun e => by have h1 := hfl i.lb (.inr (.inl (.inr (.inr (.inl rfl))))); have h2 := hfl i.gb (.inr (.inl (.inr (.inr (.inr rfl))))); omega)
 have t0 : V1.cell? ⟨w.heap.size, 0, none⟩ = some (int i64 t.ep) := by rw [zab hqV]; rfl
 have t1 : V1.cell? ⟨w.heap.size, 1, none⟩ = some (int i64 t.num) := by rw [zab hqV]; rfl
 have hqVl := zaa hqV
 have HDN := zac (done_any ((hM2.later (Below.refl _ _).drew).board) t ht (ud HG) hj)
 clear hM2 hqV hfl
 refine zbd 5 (by kernel_rfl) (by kernel_rfl) ?_
 simp only [List.take_succ_cons, List.take_zero, List.drop_succ_cons, List.drop_zero]
 repeat still_step
 refine wpStill_nil ?_
 go_wp2_with (first | (go_at_call 43; refine (ud HDN).mono ?_; rintro e V2 ⟨rfl, hB2, hK2⟩; have HV2 := zac hB2; have HK2 := zac hK2; clear hB2 hK2))
 have hkb : zaj (bfoot i.b i.tb i.qb) V1 V2 := ((zaj.refl (bfoot i.b i.tb i.qb) V1).drew).trans ((ud HK2).mono (fun k _ e => .inr e)) (fun _ _ e => e)
 have hM3 := (ud HV1).putBoard (ud HV2) hkb
 have HKB := zac hkb
 have HPO := zac (post_any hM3 hc hL2 hlen2 hnow (by have := length_delM_le (L := m.TL) (a := g.job); show (zby m.TL g.job).length <= 50000; omega))
 clear hkb hM3
 go_wp2_with (first | (go_at_call 44; refine (ud HPO).mono ?_; rintro e V3 ⟨rfl, TL', hM4, hK4, hP4⟩; have HV3 := zac hM4; have HK3 := zac hK4; have HP3 := zac hP4; clear hM4 hK4 hP4))
 go_ret
 have k1 : zaj (zbx i) w V1 := (zaj.of_below (f := zbx i) (ud HB2)).trans ((ud HK1).mono (fun q _ e => .inr (.inl (.inr (.inr e))))) (fun _ _ e => e)
 have k2 := k1.trans ((ud HKB).mono (fun q _ e => .inr (.inr e))) (fun _ _ e => e)
 have k3 := k2.trans ((ud HK3).mono (fun q _ e => .inr (.inr (.inr (.inl e))))) (fun _ _ e => e)
 exact ⟨rfl, TL', ud HV3, k3, ud HP3⟩
set_option maxRecDepth 20000 in
set_option maxHeartbeats 4000000 in
theorem mtick_bad {w : World} {i : Ids} {c : Cf} {ep : Int} {m : MS} (h : zat w i c ep m) (n : Int) (hn : n < 1 \/ 1000 < n \/ 100000 < m.now + n) (hnow : 0 <= m.now /\ m.now <= 100000) :
  Calls Tryz.prog 36 #[.pointer (some ⟨i.x, 0, none⟩), int i64 n] w fun e w' => e = .returned (int i64 5) /\ Below w.heap.size w w' := by
 obtain ⟨-, -, -, -, -, -, -, -, c8, -, -⟩ := h.cells
 have hxl := h.lt
 obtain ⟨hn1, hn2⟩ := hnow
 clear h
 by_cases h1 : n < 1
 ·clear hn
  go_enter Tryz.func36, Tryz.ntmps36
  go_wp2_with fail
  go_ret
  exact ⟨rfl, Below.refl _ _⟩
 ·have h1' : decide (n < 1) = false := by simpa using h1
  by_cases h2 : 1000 < n
  ·clear hn
   go_enter Tryz.func36, Tryz.ntmps36
   go_wp2_with fail
   go_ret
   exact ⟨rfl, Below.refl _ _⟩
  ·have h2' : decide (1000 < n) = false := by simpa using h2
   have h3 : 100000 < m.now + n := by omega
   clear hn
   go_enter Tryz.func36, Tryz.ntmps36
   go_wp2_with fail
   go_ret
   exact ⟨rfl, Below.refl _ _⟩
set_option maxRecDepth 20000 in
set_option maxHeartbeats 4000000 in
theorem mtick_good {w : World} {i : Ids} {c : Cf} {ep : Int} {m : MS} (h : zat w i c ep m) (hc : c.ok) (n : Int) (hn : 1 <= n /\ n <= 1000) (hnow : 0 <= m.now /\ m.now + n <= 100000) (hI : BInv 1000000 100000 m.TL m.QL) (hL : ∀ p ∈ m.L, inR c p.1) (hlen : m.L.length <= 2000) (htl : ∀ TL' QL', Exps (m.now + n) m.TL m.QL TL' QL' -> TL'.length <= 50000) :
  Calls Tryz.prog 36 #[.pointer (some ⟨i.x, 0, none⟩), int i64 n] w fun e w' => e = .returned (int i64 0) /\ ∃ TL1 QL1 TL', zat w' i c ep { m with now := m.now + n, TL := TL', QL := QL1 } /\ zaj (zbx i) w w' /\ Exps (m.now + n) m.TL m.QL TL1 QL1 /\ (∀ p ∈ QL1, m.now + n < p.2.til) /\ zey c { m with now := m.now + n, TL := TL1, QL := QL1 } TL' := by
 obtain ⟨-, -, -, -, -, -, -, -, c8, -, -⟩ := h.cells
 have hxl := h.lt
 obtain ⟨hn1, hn2⟩ := hn
 obtain ⟨hw1, hw2⟩ := hnow
 have h1' : decide (n < 1) = false := by simp; omega
 have h2' : decide (1000 < n) = false := by simp; omega
 have h3' : decide (100000 < m.now + n) = false := by simp; omega
 have hfr := fun j => zax h.head j
 have hS := h.setNow (m.now + n)
 have hkS : zaj (fun k => k = i.x) w (w.setCell ⟨i.x, 8, none⟩ (int i64 (m.now + n))) := zae (zaj.refl _ _) rfl
 obtain ⟨-, -, -, -, -, -, -, -, d8, -, d10⟩ := hS.cells
 have hsl := hS.lt
 dsimp only at d8
 have HE := zac (expire_any ((hS.later (Below.refl _ _).drew).board) (m.now + n) ⟨by omega, hw2⟩ hI)
 have HS := zac hS
 have HKS := zac hkS
 clear h hS hkS
 go_enter Tryz.func36, Tryz.ntmps36
 go_wp2_with fail
 generalize (w.setCell ⟨i.x, 8, none⟩ (int i64 (m.now + n))) = X at *
 refine zbd 8 (by kernel_rfl) (by kernel_rfl) ?_
 simp only [List.take_succ_cons, List.take_zero, List.drop_succ_cons, List.drop_zero]
 repeat still_step
 refine wpStill_nil ?_
 go_wp2_with (first | (go_at_call 76; refine (ud HE).mono ?_; rintro e V1 ⟨rfl, TL1, QL1, hB1, hK1, hE1, hq1⟩; have HB1 := zac hB1; have HK1 := zac hK1; have HE1 := zac hE1; have HQ1 := zac hq1; clear hB1 hK1 hE1 hq1))
 have hkb : zaj (bfoot i.b i.tb i.qb) X V1 := ((zaj.refl (bfoot i.b i.tb i.qb) X).drew).trans ((ud HK1).mono (fun k _ e => .inr e)) (fun _ _ e => e)
 have hM3 := (ud HS).putBoard (ud HB1) hkb
 have HKB := zac hkb
 have HPO := zac (post_any hM3 hc hL hlen ⟨by show 0 <= m.now + n; omega, hw2⟩ (htl _ _ (ud HE1)))
 clear hkb hM3 d8 d10
 go_wp2_with (first | (go_at_call 44; refine (ud HPO).mono ?_; rintro e V3 ⟨rfl, TL', hM4, hK4, hP4⟩; have HV3 := zac hM4; have HK3 := zac hK4; have HP3 := zac hP4; clear hM4 hK4 hP4))
 go_ret
 have k1 : zaj (zbx i) w X := (ud HKS).mono (fun q _ e => .inl e)
 have k2 := k1.trans ((ud HKB).mono (fun q _ e => .inr (.inr e))) (fun _ _ e => e)
 have k3 := k2.trans ((ud HK3).mono (fun q _ e => .inr (.inr (.inr (.inl e))))) (fun _ _ e => e)
 exact ⟨rfl, TL1, QL1, TL', ud HV3, k3, ud HE1, ud HQ1, ud HP3⟩
end Go.Proofs.YtpbimdkclnekeaaGreat

namespace Go.Proofs.YtpbimdkclnekeaaGreat
open Go.RowKit Go.Maps Go.Shelf
set_option linter.unusedVariables false
inductive Act1 (c : Cf) (ep : Int) : MS -> List Nm -> MS -> List Nm -> Prop
 | same (m : MS) (ns : List Nm) : Act1 c ep m ns m ns
 | added (m : MS) (ns : List Nm) (x : Nm) (hs : 0 <= x.ser /\ x.ser < 4) (hx : 0 <= x.tm /\ x.tm <= m.now) (hl : m.now - c.la <= x.tm) (hv : -2147483648 <= x.val /\ x.val <= 2147483647) (hu : zam m.L + (1 + 2 * missL c m.L x c.n) <= c.qu) : Act1 c ep m ns { m with L := addL c m.L x } (ns ++ [x])
 | ticked (m : MS) (ns : List Nm) (n : Int) (TL1 TL' : List (Jk × Tsk)) (QL1 : List (Tok × Lse)) (hn : 1 <= n) (hnow : m.now + n <= 100000) (he : Exps (m.now + n) m.TL m.QL TL1 QL1) (hq : ∀ p ∈ QL1, m.now + n < p.2.til) (hp : zey c { m with now := m.now + n, TL := TL1, QL := QL1 } TL') : Act1 c ep m ns { m with now := m.now + n, TL := TL', QL := QL1 } ns
 | taken (m : MS) (ns : List Nm) (p : Jk × Tsk) (slot : Int) (hp : p ∈ m.TL) (hf : freeB m.QL m.now p.2 = true) : Act1 c ep m ns { m with num := m.num + 1, QL := zdz m.QL ⟨ep, m.num + 1⟩ ⟨p.2.kd, p.2.s, slot, m.now + c.le⟩ } ns
 | failed (m : MS) (ns : List Nm) (t : Tok) (g : Lse) (x : Tsk) (hg : zbq m.QL t = some g) (hx : zbq m.TL g.job = some x) : Act1 c ep m ns { m with TL := zdz m.TL g.job (x.failed m.now), QL := zby m.QL t } ns
 | rolled (m : MS) (ns : List Nm) (t : Tok) (g : Lse) (s : Sg) (since tries rest : Int) (k : Nat) (TL' : List (Jk × Tsk)) (hg : zbq m.QL t = some g) (hx : zbq m.TL g.job = some ⟨true, s, since, tries, rest⟩) (hk : s.t = k) (hp : zey c { m with L := zeg m.L s ⟨3, zcd (zcf c m.L s.ser s.win k)⟩, Gl := m.Gl, TL := zby m.TL g.job, QL := zby m.QL t } TL') : Act1 c ep m ns { m with L := zeg m.L s ⟨3, zcd (zcf c m.L s.ser s.win k)⟩, Gl := m.Gl, TL := TL', QL := zby m.QL t } ns
 | reclaimed (m : MS) (ns : List Nm) (t : Tok) (g : Lse) (s : Sg) (since tries rest : Int) (TL' : List (Jk × Tsk)) (hg : zbq m.QL t = some g) (hx : zbq m.TL g.job = some ⟨false, s, since, tries, rest⟩) (hp : zey c { m with L := zby m.L s, Gl := zdz m.Gl s (), TL := zby m.TL g.job, QL := zby m.QL t } TL') : Act1 c ep m ns { m with L := zby m.L s, Gl := zdz m.Gl s (), TL := TL', QL := zby m.QL t } ns
theorem free_parts {QL : List (Tok × Lse)} {now : Int} {x : Tsk} (h : freeB QL now x = true) : x.rest <= now /\ leasedB QL x.key = false := by
 unfold freeB at h
 simp only [Bool.and_eq_true, Bool.not_eq_true', decide_eq_true_eq] at h
 exact h
theorem Act1.ok {c : Cf} {ep : Int} {m m' : MS} {ns ns' : List Nm} (hc : c.ok) (hf : c.fits) (h : Act1 c ep m ns m' ns') (hs : SOk c ep m ns.length) : SOk c ep m' ns'.length := by
 cases h with
 | same => exact hs
 | added x h1 h2 h3 h4 h5 => have := (hs.ingest hc hf h1 h2 h3 h4 h5).1; simpa using this
 | ticked n TL1 TL' QL1 hn hnow he hq hp => exact (hs.tick hc hf hn hnow he hq hp).1
 | taken p slot hp hfr => obtain ⟨h1, h2⟩ := free_parts hfr; exact hs.take hc hp h1 h2 slot
 | failed t g x hg hx => exact hs.fail hg hx
 | rolled t g s since tries rest k TL' hg hx hk hp => exact (hs.roll hc hf hg hx _ hp).1
 | reclaimed t g s since tries rest TL' hg hx hp => exact (hs.reclaim hc hf hg hx hp).1
theorem Act1.nums {c : Cf} {ep : Int} {m m' : MS} {ns ns' : List Nm} (h : Act1 c ep m ns m' ns') : ns'.length <= ns.length + 1 := by
 cases h <;> simp
def Shop (w : World) (B p : Nat) (c : Cf) (ep : Int) (m : MS) (ns : List Nm) (j : Nat) : Prop :=
 ∃ (s : Shp) (k : Nat), s.p = p /\ zbn w B s c ep m m.now ns (tokL ep k) (zdy ep m.QL k) /\ m.num = k /\ SOk c ep m ns.length /\ k <= j /\ ns.length <= j
theorem Shop.later {w w' : World} {B p : Nat} {c : Cf} {ep : Int} {m : MS} {ns : List Nm} {j : Nat} (h : Shop w B p c ep m ns j) (hb : Below w.heap.size w w') : Shop w' B p c ep m ns j := by
 obtain ⟨s, k, h1, h2, h3⟩ := h
 exact ⟨s, k, h1, h2.later hb, h3⟩
theorem Shop.mono {w : World} {B p : Nat} {c : Cf} {ep : Int} {m : MS} {ns : List Nm} {j j' : Nat} (h : Shop w B p c ep m ns j) (hj : j <= j') : Shop w B p c ep m ns j' := by
 obtain ⟨s, k, h1, h2, h3, h4, h5, h6⟩ := h
 exact ⟨s, k, h1, h2, h3, h4, by omega, by omega⟩
theorem SOk.tsk {c : Cf} {ep : Int} {m : MS} {nn : Nat} (h : SOk c ep m nn) : ∀ p ∈ m.TL, TskIn c m.now p.2 := fun p hp => by
 have h1 := h.ok.tasks p hp
 have h2 := h.ok.mem_inR h1.mem
 exact ⟨h2.2.1, h2.2.2.1, h2.2.2.2, h1.since⟩
theorem SOk.qn {c : Cf} {ep : Int} {m : MS} {nn : Nat} (h : SOk c ep m nn) : ∀ q ∈ m.QL, q.1.num <= m.num := fun q hq => (h.ok.leas q hq).num.2
theorem SOk.epoch {c : Cf} {ep : Int} {m : MS} {nn : Nat} (h : SOk c ep m nn) {t : Tok} (ht : t ∉ tokL ep m.num.toNat) : zbq m.QL t = none := by
 rw [zdb]
 intro hk
 obtain ⟨q, hq, rfl⟩ := List.mem_map.1 (show t ∈ m.QL.map (·.1) from hk)
 have h1 := (h.ok.leas q hq).ep
 have h2 := (h.ok.leas q hq).num
 refine ht (List.mem_map.2 ⟨(q.1.num - 1).toNat, by simp; omega, ?_⟩)
 obtain ⟨⟨e, n⟩, g⟩ := q
 dsimp only at h1 h2 ⊢
 rw [h1]
 congr 1
 omega
end Go.Proofs.YtpbimdkclnekeaaGreat
