import Derived.Test.YtndhpgciopcncaaGreatDoorVJn2

namespace Go.Proofs.YtndhpgciopcncaaGreatDoor
open Value (int)
open IntKind (i64)
open Go.RowKit Go.Maps Go.Shelf
open Go.ChangeMaps (setBlock)
set_option linter.unusedVariables false
attribute [local go_sem] Oper.semAt_some
theorem Yn {w : World} {g k i j : Nat} (h : ¬ k = g) (v : Value) : (w.setCell ⟨g, i, none⟩ v).cell? ⟨k, j, none⟩ = w.cell? ⟨k, j, none⟩ := by
 simp only [World.cell?, Below.heap_setCell _ _ _ _ (show k ≠ (⟨g, _, none⟩ : Addr).block from h)]
theorem zfX {F : Fence} {n : Nat} {W : World} {ops : Array Oper} {rest : List Oper} {o : Oper} {a : Act} {Q : Exit -> Act -> World -> Prop} (hgd : o.guard = none) (s x : Operand)
  (ho : o.op = .call { callee := .builtin .append, args := #[s, x], argTypes := #[105, 105] }) (base : Nat) (v : Value) (l : List SX) (f : SX) (hs : a.eval s = v) (hown : vy W base v l)
  (B1 : Nat) (hx : a.eval x = .slice (some ⟨B1, 0, none⟩) 1 1) (hB1 : W.heap[B1]? = some (.cells (xe f).toArray 148 (0, 0))) (hl : l.length <= 1000000) (hbase : base <= W.heap.size)
  (h : ∀ g cap w', vy w' base (.slice (some ⟨g, 0, none⟩) (l.length + 1) cap) (l ++ [f]) -> W.grownBy w' v.ownBlock -> (v.ownBlock = some g \/ g = W.heap.size) -> g < w'.heap.size -> wpListIn F n Tryz.prog ops Q rest (a.put o.dst (.slice (some ⟨g, 0, none⟩) (l.length + 1) cap)) w') : wpListIn F n Tryz.prog ops Q (o :: rest) a W := by
 obtain ⟨i0, hi, hi1, hi2, hi3⟩ := JL
 refine wpListIn_append_own_at W hgd s x 105 ho base 148 i0 (.agg #[int i64 0, int i64 0, int i64 0, int i64 0, int i64 0, int i64 0, .int .i32 0, .int .i32 0]) 8 56 Tryz.underlying105 hi hi1 hi2 hi3 rfl (by decide) v l.length _ hs hown ⟨B1, 0, none⟩ 1 1 (xe f) hx rfl (World.news_of_block (cs := (xe f).toArray) hB1) (vt f) (by simp only [maxLen]; omega) (by omega) hbase ?_
 intro v' w3 hown' hg3 hnil3 hwh3
 obtain ⟨g', cap', rfl, hbg', hlg'⟩ := hown'.form (by omega)
 exact h g' cap' w3 (zer hown') hg3 (by rcases hwh3 with e | e
                      ·exact .inl e.symm
                      ·exact .inr (by simpa [Value.ownBlock] using e)) hlg'
theorem zab {c : Cf} (hc : c.ok) {sr tm : Int} (hser : 0 <= sr /\ sr < 4) (htm : 0 <= tm /\ tm <= 100000) (Gl : List (Sg × Unit)) (L : LV) (val : Int) : ∀ k, k <= c.n -> XY c Gl L ⟨sr, tm, val⟩ k = (((qi c sr tm k).map zeP).filter (fun x => (stG Gl L x.1).st == 0)).map (fun x => (x.1, (⟨2, qc⟩ : SV)))
 | 0, _ => rfl
 | k + 1, hk => by
  have ih := zab hc hser htm Gl L val k (by omega)
  unfold XY at ih ⊢
  dsimp only at ih ⊢
  rw [yP, List.filter_append, List.map_append, List.map_append, List.filter_append, List.map_append, ih]
  congr 1
  have e := Xq (ZP hc hser htm (show k < c.n by omega))
  rw [List.map_singleton, List.filter_cons, List.filter_cons, e]
  split
  ·simp [e]
  ·rfl
def adI (w : World) (bx g N : Nat) (x0 : SX) (pre : List WSg) (W : World) : Prop := ∃ v, W.heap[bx]? = some (.cells #[v] 105 (0, 0)) /\ vy W w.heap.size v (x0 :: pre.map (fun x => (x.1, (⟨2, qc⟩ : SV)))) /\ Below w.heap.size w W /\ (∀ r, v.ownBlock = some r -> r = g \/ N <= r) /\ N <= W.heap.size
theorem adI.later {w : World} {bx g N : Nat} {x0 : SX} {pre : List WSg} {W W' : World} (h : adI w bx g N x0 pre W) (hb : Below W.heap.size W W') : adI w bx g N x0 pre W' := by
 obtain ⟨v, h1, h2, h3, h4, h5⟩ := h
 exact ⟨v, (hb.block _ (za h1)).trans h1, xm h2 hb, h3.trans (hb.mono h3.size), h4, Nat.le_trans h5 hb.size⟩
theorem zhT {ex : Nat -> Prop} {n m g i : Nat} {W : World} {v : Value} (he : ex g) (hm : g < m) : KX ex n m W (W.setCell ⟨g, i, none⟩ v) :=
 ⟨(zo.refl _ _).setCell (p := ⟨g, i, none⟩) (fun _ => .inl he) v, fun k o _ hk ho => (KeepsOthers.setCell W ⟨g, i, none⟩ v).same k o hk (Obj.not_cells_of_walk ho), fun k o hx _ hk => (Below.heap_setCell _ _ _ _ (show k ≠ g by omega)).trans hk⟩
theorem zge {c : Cf} {L : LV} {sr tm val wa : Int} (hw : tm / c.wt (-1) = wa) (hv : -2147483648 <= val /\ val <= 2147483647) (hg : (yA L ⟨-1, sr, wa⟩).isSome = false) : ((⟨-1, sr, wa⟩, ⟨1, xz [yt val]⟩) : SX) = zgY c L ⟨sr, tm, val⟩ := by
 subst hw
 unfold zgY
 have e : xk c ⟨sr, tm, val⟩ = ⟨-1, sr, tm / c.wt (-1)⟩ := rfl
 rw [e]
 cases h : yA L ⟨-1, sr, tm / c.wt (-1)⟩ with
 | none => rw [zfI val hv]; rfl
 | some v => rw [h] at hg; simp at hg
theorem zgf {c : Cf} {L : LV} {sr tm val wa : Int} {sv : SX} (hw : tm / c.wt (-1) = wa) (hv : -2147483648 <= val /\ val <= 2147483647) (hg : (yA L ⟨-1, sr, wa⟩).isSome = true) (hs : stX L ⟨-1, sr, wa⟩ = sv) (hsm : ∀ p ∈ L, p.1.t = -1 -> p.2.cl.small) : ((⟨-1, sr, wa⟩, ⟨1, xz [yt val, sv.2.cl]⟩) : SX) = zgY c L ⟨sr, tm, val⟩ := by
 subst hw
 unfold zgY
 have e : xk c ⟨sr, tm, val⟩ = ⟨-1, sr, tm / c.wt (-1)⟩ := rfl
 rw [e]
 cases h : yA L ⟨-1, sr, tm / c.wt (-1)⟩ with
 | none => rw [h] at hg; simp at hg
 | some v =>
  have e2 : sv.2 = v := by rw [<- hs]; unfold stX; rw [h]
  rw [e2, zfJ val hv v.cl (hsm _ (kz h) rfl)]; rfl
set_option maxRecDepth 100000 in
set_option maxHeartbeats 8000000 in
theorem zbk {w : World} {s : Nat} {c : Cf} {tv : Value} {lb gb : Nat} {Gl : List (Sg × Unit)} {L : LV} (h : xt w s c tv lb gb Gl L) (hc : c.ok) (sr tm val : Int) (hser : 0 <= sr /\ sr < 4) (htm : 0 <= tm /\ tm <= 100000) (hval : -2147483648 <= val /\ val <= 2147483647) (hsm : ∀ p ∈ L, p.1.t = -1 -> p.2.cl.small) :
  Calls Tryz.prog 64 #[.pointer (some ⟨s, 0, none⟩), int i64 sr, int i64 tm, .int .i32 val] w fun e w' => ∃ v, e = .returned v /\ vy w' w.heap.size v (yZ c Gl L ⟨sr, tm, val⟩) /\ Below w.heap.size w w' := by
 have hn1 := hc.n1
 have hwk : (⟨-1, sr, tm / c.wt (-1)⟩ : Sg).wf := by
  obtain ⟨hw1, hw2⟩ := hc.wt (t := -1) (by omega) (by omega)
  have hd : 0 <= tm / c.wt (-1) := Int.ediv_nonneg htm.1 (by omega)
  have hd2 : tm / c.wt (-1) <= tm := Int.ediv_le_self _ htm.1
  refine ⟨?_, ?_, ?_⟩ <;> unfold xg <;> simp only <;> omega
 obtain ⟨wa, hwin⟩ : ∃ wa, tm / c.wt (-1) = wa := ⟨_, rfl⟩
 have hsl := h.lt
 have HKY := zd (zad h.hd hc (-1) sr tm (by omega) (by omega) htm)
 rw [hwin] at HKY hwk
 have H := zd h
 have HWIN := zd hwin
 have HWK := zd hwk
 obtain ⟨hv1, hv2⟩ := hval
 obtain ⟨sv, hsv⟩ : ∃ sv, stX L ⟨-1, sr, wa⟩ = sv := ⟨_, rfl⟩
 obtain ⟨ok, hok⟩ : ∃ ok, (yA L ⟨-1, sr, wa⟩).isSome = ok := ⟨_, rfl⟩
 have HSV := zd hsv
 have HOK := zd hok
 clear h hwin hwk hsv hok
 refine (callsIn_wide (n := 7)).1 ?_
 refine callsIn_of_wp_marks Tryz.func64 rfl trivial ?_ rfl
 simp only [Tryz.ntmps64, List.size_toArray, List.length_cons, List.length_nil, Nat.reduceAdd, Nat.reduceSub, Array.replicate_succ, Array.replicate_zero, List.push_toArray, List.append_toArray, List.nil_append, List.cons_append]
 refine wpIn_wide.2 ?_
 go_wp2_with fail
 refine (ud HKY).mono ?_
 rintro e w1 ⟨rfl, hb1⟩
 have HB1 := zd hb1
 clear hb1
 go_wp2_with fail
 obtain ⟨y0, y1, hbw, yz⟩ := box2 w1 (.cells #[int i64 (-1), int i64 sr, int i64 wa] 146) (.cells #[int i64 1, int i64 val, .int .i32 val, .int .i32 val] 115)
 generalize ((w1.alloc (.cells #[int i64 (-1), int i64 sr, int i64 wa] 146)).alloc (.cells #[int i64 1, int i64 val, .int .i32 val, .int .i32 val] 115)) = X at *
 have hwX : Below w.heap.size w X := (ud HB1).trans (hbw.mono (ud HB1).size)
 obtain ⟨-, -, -, -, -, -, -, x7, -⟩ := ((ud H).later hwX).cells
 obtain ⟨k0, k1, k2, -⟩ := zc y0
 have hsX : s < X.heap.size := Nat.lt_of_lt_of_le hsl hwX.size
 have hkX : w1.heap.size < X.heap.size := by omega
 have hrX : w1.heap.size + 1 < X.heap.size := by omega
 have g0 := jD (X := X) (ud H).live hwX (ud HWK)
 have g1 := jD (X := X.drew) (ud H).live hwX.drew (ud HWK)
 have g2 := fun o => jD (X := X.alloc o) (ud H).live (hwX.alloc hwX.size o) (ud HWK)
 have g3 := fun o => jD (X := (X.alloc o).drew) (ud H).live (hwX.alloc hwX.size o).drew (ud HWK)
 have g4 := fun o => jD (X := X.drew.alloc o) (ud H).live (hwX.drew.alloc hwX.drew.size o) (ud HWK)
 rw [ud HSV, ud HOK] at g0 g1
 simp only [ud HSV, ud HOK] at g2 g3 g4
 have HWX := zd hwX
 have Y0 := zd y0
 have Y1 := zd y1
 have YZ := zd yz
 clear hwX y0 y1 yz hbw
 go_region
 have hbY : Below X.heap.size X ((X.alloc (.cells #[int i64 sv.1.t, int i64 sv.1.sr, int i64 sv.1.wa, int i64 sv.2.st, int i64 sv.2.cl.cnt, int i64 sv.2.cl.sum, .int .i32 sv.2.cl.mn, .int .i32 sv.2.cl.mx] 148)).drew) := ((Below.refl _ _).alloc (Nat.le_refl _) _).drew
 have hlY : ((X.alloc (.cells #[int i64 sv.1.t, int i64 sv.1.sr, int i64 sv.1.wa, int i64 sv.2.st, int i64 sv.2.cl.cnt, int i64 sv.2.cl.sum, .int .i32 sv.2.cl.mn, .int .i32 sv.2.cl.mx] 148)).drew).heap[X.heap.size]? = some (.cells #[int i64 sv.1.t, int i64 sv.1.sr, int i64 sv.1.wa, int i64 sv.2.st, int i64 sv.2.cl.cnt, int i64 sv.2.cl.sum, .int .i32 sv.2.cl.mn, .int .i32 sv.2.cl.mx] 148 (0, 0)) := zk _ _
 have hzY : ((X.alloc (.cells #[int i64 sv.1.t, int i64 sv.1.sr, int i64 sv.1.wa, int i64 sv.2.st, int i64 sv.2.cl.cnt, int i64 sv.2.cl.sum, .int .i32 sv.2.cl.mn, .int .i32 sv.2.cl.mx] 148)).drew).heap.size = X.heap.size + 1 := zI _ _
 generalize ((X.alloc (.cells #[int i64 sv.1.t, int i64 sv.1.sr, int i64 sv.1.wa, int i64 sv.2.st, int i64 sv.2.cl.cnt, int i64 sv.2.cl.sum, .int .i32 sv.2.cl.mn, .int .i32 sv.2.cl.mx] 148)).drew) = Y at *
 have HBY := zd hbY
 have HLY := zd hlY
 have HZY := zd hzY
 clear g0 g1 g2 g3 g4 x7 k0 k1 k2 hbY hlY hzY
 rename_i Q1 K1 aK1 K2 aK2
 have tail : ∀ (v10 v11 v12 v18 v19 v20 v21 v22 v23 v24 v25 v26 v27 v28 v29 v30 v31 v32 v33 v34 v35 v36 v37 v38 v39 : Value) (nc : Cl) (Z : World), (∀ Z', Below Z.heap.size Z Z' -> Hid (Calls Tryz.prog 123 #[v10] Z' fun e w' => e = .returned (.agg #[int i64 nc.cnt, int i64 nc.sum, .int .i32 nc.mn, .int .i32 nc.mx]) /\ Below Z'.heap.size Z' w')) -> Hid (((⟨-1, sr, wa⟩, ⟨1, nc⟩) : SX) = zgY c L ⟨sr, tm, val⟩) -> Hid (Below w.heap.size w Z) -> Hid (Z.heap[w1.heap.size]? = some (.cells #[int i64 (-1), int i64 sr, int i64 wa] 146 (0, 0))) -> K1 { tmps := #[.pointer (some ⟨s, 0, none⟩), int i64 sr, int i64 tm, .int .i32 val, undef, undef, undef, undef, .slice none 0 0, .pointer (some ⟨w1.heap.size, 0, none⟩), v10, v11, v12, undef, undef, .pointer (some ⟨s, 0, none⟩), int i64 sr, int i64 tm, v18, v19, v20, v21, v22, v23, v24, v25, v26, v27, v28, v29, v30, v31, v32, v33, v34, v35, v36, v37, v38, v39, undef, undef, undef, undef, undef, undef, undef, undef, undef, undef, undef, undef, undef, undef, undef, undef, undef, undef, undef], defers := [] } Z := by
  intro v10 v11 v12 v18 v19 v20 v21 v22 v23 v24 v25 v26 v27 v28 v29 v30 v31 v32 v33 v34 v35 v36 v37 v38 v39 nc Z HJ HADD HWZ HLK
  refine aK1 _ _ ?_
  clear aK2 aK1
  go_wp2_with fail
  rename_i K3 aK3
  obtain ⟨kz0, kz1, kz2, -⟩ := zc (ud HLK)
  have hkZ : w1.heap.size < Z.heap.size := za (ud HLK)
  have cont : ∀ (bx g : Nat) (T : World), Hid (Below w.heap.size w T) -> Hid (T.heap[bx]? = some (.cells #[.slice (some ⟨g, 0, none⟩) 1 1] 105 (0, 0))) -> Hid (T.heap[g]? = some (.cells #[int i64 (-1), int i64 sr, int i64 wa, int i64 1, int i64 nc.cnt, int i64 nc.sum, .int .i32 nc.mn, .int .i32 nc.mx] 148 (0, 0))) -> Hid (w.heap.size <= bx /\ w.heap.size <= g) -> K3 { tmps := #[.pointer (some ⟨s, 0, none⟩), int i64 sr, int i64 tm, .int .i32 val, undef, undef, undef, undef, .slice none 0 0, .pointer (some ⟨w1.heap.size, 0, none⟩), v10, v11, v12, .pointer (some ⟨bx, 0, none⟩), undef, .pointer (some ⟨s, 0, none⟩), int i64 sr, int i64 tm, v18, v19, v20, v21, v22, v23, v24, v25, v26, v27, v28, v29, v30, v31, v32, v33, v34, v35, v36, v37, v38, v39, .agg #[int i64 (-1), int i64 sr, int i64 wa], v10, .agg #[int i64 nc.cnt, int i64 nc.sum, .int .i32 nc.mn, .int .i32 nc.mx], .agg #[int i64 (-1), int i64 sr, int i64 wa, int i64 1, int i64 nc.cnt, int i64 nc.sum, .int .i32 nc.mn, .int .i32 nc.mx], .slice (some ⟨g, 0, none⟩) 1 1, undef, undef, undef, undef, undef, undef, undef, undef, undef, undef, undef, undef, undef, undef], defers := [] } T := by
   intro bx g T HWT HBX HG HBG
   refine aK3 _ _ ?_
   obtain ⟨hbx, hgx⟩ := ud HBG
   have hbl := za (ud HBX)
   have hgl := za (ud HG)
   have hsT := (ud H).later (ud HWT)
   obtain ⟨hRd, hbC, hzC⟩ := Xx hsT.hd sr tm
   obtain ⟨C, hCe⟩ : ∃ C, Xw T s sr tm = C := ⟨_, rfl⟩
   rw [hCe] at hRd hbC hzC
   have HCO := zd (Xv s sr tm T)
   rw [hCe] at HCO
   have HW0 := zd (Qo 183 #[.pointer (some ⟨T.heap.size, 0, none⟩), .pointer (some ⟨T.heap.size + 1, 0, none⟩), .pointer (some ⟨T.heap.size + 2, 0, none⟩)] 121 #[.pointer (some ⟨s, 0, none⟩)] #[] C)
   obtain ⟨hl2, hh2, hb2, hz2⟩ := box2 C (.cells #[.func (.func 183) #[] #[.pointer (some ⟨T.heap.size, 0, none⟩), .pointer (some ⟨T.heap.size + 1, 0, none⟩), .pointer (some ⟨T.heap.size + 2, 0, none⟩)]] 199) (.cells #[.func (.func 121) #[.pointer (some ⟨s, 0, none⟩)] #[]] 206)
   obtain ⟨X2, hX2⟩ : ∃ X2, ((C.alloc (.cells #[.func (.func 183) #[] #[.pointer (some ⟨T.heap.size, 0, none⟩), .pointer (some ⟨T.heap.size + 1, 0, none⟩), .pointer (some ⟨T.heap.size + 2, 0, none⟩)]] 199)).alloc (.cells #[.func (.func 121) #[.pointer (some ⟨s, 0, none⟩)] #[]] 206)) = X2 := ⟨_, rfl⟩
   rw [hX2] at hl2 hh2 hb2 hz2 HW0
   have hTX : Below T.heap.size T X2 := hbC.trans (hb2.mono (by omega))
   have hwX2 : Below w.heap.size w X2 := (ud HWT).trans (hTX.mono (ud HWT).size)
   have hset2 := hsT.later hTX
   have hfl := (ud H).foot_lt
   have hseqC := Ks (ex := fun k => k = bx \/ k = g) (n := X2.heap.size) T.heap.size s c hc tv lb gb sr tm hser htm X2 (hRd.later hb2) (fun i hi => ⟨by omega, by omega⟩) ⟨by omega, by omega⟩ (fun k hk => by have := hfl k (.inr (.inl hk)); constructor <;> omega)
   have hseqW := vY (fun x : WSg => x.1) 183 #[.pointer (some ⟨T.heap.size, 0, none⟩), .pointer (some ⟨T.heap.size + 1, 0, none⟩), .pointer (some ⟨T.heap.size + 2, 0, none⟩)] ZT 121 #[.pointer (some ⟨s, 0, none⟩)] #[] jE (fun x => (stG Gl L x.1).st == 0) C.heap.size (C.heap.size + 1) X2 (Nat.le_refl _) ⟨by omega, by omega⟩ ⟨by omega, by omega⟩ hl2 hh2
    (fun x W ⟨m, hk⟩ => ZX (hset2.kx hk (fun k hh => by have := hfl k hh; constructor <;> omega)) x.1 x.2) hseqC
   have HSW := zd hseqW
   have HWX2 := zd hwX2
   have HBX2 := zd ((hTX.block _ hbl).trans (ud HBX))
   have HG2 := zd ((hTX.block _ hgl).trans (ud HG))
   have hzz : T.heap.size <= X2.heap.size := hTX.size
   clear hsT hRd hbC hzC hl2 hh2 hb2 hz2 hTX hwX2 hset2 hfl hseqC hseqW hCe hX2 HBX HG
   go_wp2_with (first
    | (go_at_call 120; refine (ud HCO).mono ?_; rintro e C' ⟨rfl, hC'⟩; subst hC')
    | (go_at_call 124; refine (ud HW0).mono ?_; rintro e X2' ⟨rfl, hX2'⟩; subst hX2'))
   rename_i K4 aK4
   have hXw := (ud HWX2).size
   refine (wpIn_wide (n := 7)).1 ?_
   refine qv (F := Fence.wide) (n := 7) rfl (by omega) (gf := 194) (lb := #[.pointer (some ⟨C'.heap.size, 0, none⟩), .pointer (some ⟨C'.heap.size + 1, 0, none⟩)]) rfl trivial Qn (ud HSW (X2'.heap.size + 2) (by omega)) (Nat.le_refl _) (fun h k => h.trans k) (fun W o o' h hc hw => KX.putObj o' (by omega) (by omega) h hw) (Below.refl _ _) (fun _ => rfl)
    (adI w bx g X2'.heap.size (⟨-1, sr, wa⟩, ⟨1, nc⟩)) (fun _ _ _ => False)
    (fun s A B row hs hg hr => by
     obtain ⟨v, h1, h2, h3, h4, h5⟩ := hs
     exact ⟨v, zr h1 hg (fun r e => (hr r e).2), jd h2 hg (fun r e => (hr r e).2), h3.grown hg h3.size (fun k e => by have := (hr k e).1; omega), h4, Nat.le_trans h5 hg.size⟩)
    (fun _ _ _ _ _ hs _ _ => hs)
    ⟨_, ud HBX2, Xl (xs := [((⟨-1, sr, wa⟩, ⟨1, nc⟩) : SX)].flatMap xe) (n := 1) (size := 8) (ud HG2) rfl (by decide) (by simp [maxLen]) hgx, ud HWX2, fun r e => .inl (by cases e; rfl), Nat.le_refl _⟩
    (fun x a' W => ∃ Bx, X2'.heap.size <= Bx /\ W.heap[Bx]? = some (.cells #[int i64 x.1.t, int i64 x.1.sr, int i64 x.1.wa] 146 (0, 0)) /\ a' = { tmps := #[.pointer (some ⟨s, 0, none⟩), int i64 sr, int i64 tm, .int .i32 val, undef, undef, undef, undef, .slice none 0 0, .pointer (some ⟨w1.heap.size, 0, none⟩), v10, v11, v12, .pointer (some ⟨bx, 0, none⟩), .pointer (some ⟨Bx, 0, none⟩), .pointer (some ⟨s, 0, none⟩), int i64 sr, int i64 tm, v18, v19, v20, v21, v22, v23, v24, v25, v26, v27, v28, v29, v30, v31, v32, v33, v34, v35, v36, v37, v38, v39, .agg #[int i64 (-1), int i64 sr, int i64 wa], v10, .agg #[int i64 nc.cnt, int i64 nc.sum, .int .i32 nc.mn, .int .i32 nc.mx], .agg #[int i64 (-1), int i64 sr, int i64 wa, int i64 1, int i64 nc.cnt, int i64 nc.sum, .int .i32 nc.mn, .int .i32 nc.mx], .slice (some ⟨g, 0, none⟩) 1 1, .pointer (some ⟨s, 0, none⟩), int i64 sr, int i64 tm, .func (.func 183) #[] #[.pointer (some ⟨T.heap.size, 0, none⟩), .pointer (some ⟨T.heap.size + 1, 0, none⟩), .pointer (some ⟨T.heap.size + 2, 0, none⟩)], .pointer (some ⟨s, 0, none⟩), .func (.func 121) #[.pointer (some ⟨s, 0, none⟩)] #[], .func (.func 194) #[] #[.pointer (some ⟨C'.heap.size, 0, none⟩), .pointer (some ⟨C'.heap.size + 1, 0, none⟩)], .agg #[int i64 x.1.t, int i64 x.1.sr, int i64 x.1.wa], undef, undef, undef, undef, undef, undef], defers := [] })
    (fun x a' s A B row hs hg hr => by
     obtain ⟨Bx, h1, h2, h3⟩ := hs
     exact ⟨Bx, h1, zr h2 hg (fun r e => (hr r e).2), h3⟩) ?assign ?body ?done ?stop
   case assign =>
    rintro l pre x W K hI hK
    have HK := zd hK
    have HI := zd hI
    clear hK hI
    gi_wp2
    have hba := (Below.refl W.heap.size W).alloc (Nat.le_refl _) (.cells #[int i64 x.1.t, int i64 x.1.sr, int i64 x.1.wa] 146)
    have hzW : X2'.heap.size <= W.heap.size := by obtain ⟨v, -, -, -, -, h5⟩ := ud HI; exact h5
    exact ud HK _ _ (zi hba) (KX.of_below hba) ((ud HI).later hba) ⟨W.heap.size, hzW, zk _ _, rfl⟩
   case body =>
    rintro l pre x a' W hl ⟨r, hr⟩ ⟨v, i1, i2, i3, i4, i5⟩ ⟨Bx, hBx, hx, rfl⟩ hlt
    have hsz := za i1
    have hxz := za hx
    obtain ⟨c1, -⟩ := zc i1
    obtain ⟨x0, x1, x2, -⟩ := zc hx
    have hn4 := hc.n4
    have hlz : ((((⟨-1, sr, wa⟩, ⟨1, nc⟩) : SX)) :: pre.map (fun x => (x.1, (⟨2, qc⟩ : SV)))).length <= 1000000 := by rw [List.length_cons, List.length_map]; omega
    obtain ⟨zs, hzs⟩ : ∃ zs, (((⟨-1, sr, wa⟩, ⟨1, nc⟩) : SX)) :: pre.map (fun x => (x.1, (⟨2, qc⟩ : SV))) = zs := ⟨_, rfl⟩
    rw [hzs] at i2 hlz
    have HZS := zd hzs
    have HI1 := zd i1
    have HI2 := zd i2
    have HI3 := zd i3
    have HI4 := zd i4
    have HX := zd hx
    clear i1 i2 i3 i4 hx hr hzs hlt HSW HBX2 HG2 HWT HCO HW0 HWX2
    gi_wp2_with (first
     | (gi_at_builtin; refine zfX rfl _ _ rfl w.heap.size _ zs ((x.1, ⟨2, qc⟩) : SX) rfl ((ud HI2).alloc _) W.heap.size rfl (zk _ _) hlz (by rw [zI]; omega) ?_; intro g' cap' w3 hown' hg3 hwh hlg'
        have hk3 := XJ ((ud HI2).alloc (.cells #[int i64 x.1.t, int i64 x.1.sr, int i64 x.1.wa, int i64 2, int i64 0, int i64 0, .int .i32 0, .int .i32 0] 148)) hg3 X2'.heap.size
        have b3 : w3.heap[bx]? = some (.cells #[v] 105 (0, 0)) := (hg3.block bx (by rw [zI]; omega) (fun e => zu (ud HI1) (ud HI2) (by decide) bx e.symm rfl)).trans ((Below.heap_alloc _ _ _ hsz).trans (ud HI1))
        obtain ⟨d1, -⟩ := zc b3
        have f1 : w3.frozen? ⟨bx, 0, none⟩ = false := zC b3 0
        have hsz3 := za b3
        have HO3 := zd hown'
        have HG3 := zd hg3
        have HK3 := zd hk3
        have HB3 := zd b3
        have HWH := zd hwh
        clear hown' hg3 hk3 b3 hwh
        go_frame)
     | gi_in)
    have hk := ud HK3
    have hg : (W.alloc (.cells #[int i64 x.1.t, int i64 x.1.sr, int i64 x.1.wa, int i64 2, int i64 0, int i64 0, .int .i32 0, .int .i32 0] 148)).grownBy w3 v.ownBlock := ud HG3
    have hown := ud HO3
    have hb := ud HI3
    have hba := (Below.refl W.heap.size W).alloc (Nat.le_refl _) (.cells #[int i64 x.1.t, int i64 x.1.sr, int i64 x.1.wa, int i64 2, int i64 0, int i64 0, .int .i32 0, .int .i32 0] 148)
    have hb3 : Below w.heap.size w w3 := (hb.alloc hb.size _).grown hg (by have := hb.size; rw [zI]; omega) (fun k e => (World.ownsRow.lt (ud HI2) k e).1)
    refine ⟨((zi hba).trans hk.1).trans ((KeepsOthers.setCell w3 ⟨bx, 0, none⟩ _).from _), ((KX.of_below hba).trans (KX.grown hg (fun r e => ⟨?_, ?_⟩))).trans (zhT (.inl rfl) (by omega)), ?_⟩
    ·rcases ud HI4 r e with h | h
     ·exact .inl (.inr h)
     ·exact .inr h
    ·obtain ⟨cur, hcur⟩ := zH ((ud HI2).alloc (.cells #[int i64 x.1.t, int i64 x.1.sr, int i64 x.1.wa, int i64 2, int i64 0, int i64 0, .int .i32 0, .int .i32 0] 148)) e
     exact ⟨_, _, hcur⟩
    ·refine ⟨_, xy (i := 0) (ud HB3) _, ?_, hb3.setCell (p := ⟨bx, 0, none⟩) hbx _, fun r e => ?_, ?_⟩
     ·have hr2 := zg (w' := w3.setCell ⟨bx, 0, none⟩ (.slice (some ⟨g', 0, none⟩) (zs.length + 1) cap')) hown (zn (f := fun k => k = bx) (zo.refl _ _) rfl) (fun k hk' e => zu (ud HB3) hown (by decide) k hk' e)
      have ez : (((⟨-1, sr, wa⟩, ⟨1, nc⟩) : SX)) :: (pre ++ [x]).map (fun x => (x.1, (⟨2, qc⟩ : SV))) = zs ++ [((x.1, ⟨2, qc⟩) : SX)] := by
       rw [List.map_append, <- List.cons_append, ud HZS]; rfl
      rw [ez]
      unfold vy
      rw [List.length_append, List.length_singleton] at hr2 ⊢
      exact hr2
     ·have er : r = g' := by cases e; rfl
      subst er
      rcases ud HWH with h | h
      ·exact ud HI4 _ h
      ·right; rw [h, zI]; omega
     ·have := hg.size; rw [zI] at this; simp; omega
   case done =>
    rintro D xs W hD hS ⟨v, i1, i2, i3, i4, i5⟩ hK
    obtain ⟨ys, rfl, hxs⟩ := hS
    obtain ⟨c1, -⟩ := zc i1
    have hsz := za i1
    have HI2 := zd i2
    have HI3 := zd i3
    have HKD := zd hK
    have HXS := zd hxs
    clear i1 i2 i3 i4 hK hxs
    refine aK4 _ _ ?_
    go_wp2_with fail
    refine ⟨by simp, .inl ⟨_, _, rfl, run_takeDeferred (ud HKD), ?_⟩⟩
    refine ⟨_, results_tmp rfl _ _ _, _, rfl, ?_, xi (ud HI3) (Nat.le_refl _) (by omega) (ud HKD) _⟩
    have hr2 := jd (ud HI2) (grownBy_putObj' W D (.deferred none)) (fun r e => by cases e; exact ⟨_, ud HKD, rfl⟩)
    have ez : yZ c Gl L ⟨sr, tm, val⟩ = (((⟨-1, sr, wa⟩, ⟨1, nc⟩) : SX)) :: xs.map (fun x => (x.1, (⟨2, qc⟩ : SV))) := by
     unfold yZ
     rw [<- ud HADD, ud HXS, zab hc hser htm Gl L val c.n (Nat.le_refl _)]
    rw [ez]
    exact hr2
   case stop =>
    rintro D c pre W _ _ h _
    exact h.elim
  have HJZ := HJ Z (Below.refl _ _)
  have HJD := HJ Z.drew (Below.refl _ _).drew
  have hbA : Below Z.heap.size Z (Z.alloc (.cells #[.slice none 0 0] 105)) := (Below.refl _ _).alloc (Nat.le_refl _) _
  have HJA := HJ (Z.alloc (.cells #[.slice none 0 0] 105)) hbA
  have HJB := HJ (Z.alloc (.cells #[.slice none 0 0] 105)).drew hbA.drew
  have HJC := HJ (Z.drew.alloc (.cells #[.slice none 0 0] 105)) ((Below.refl _ _).drew.alloc (Nat.le_refl _) _)
  have hza := zI Z (.cells #[.slice none 0 0] 105)
  have hla := zk Z (.cells #[.slice none 0 0] 105)
  have HLA := zd hla
  have hkz : ¬ w1.heap.size = Z.heap.size := by omega
  clear HJ hla hbA aK3
  go_region_held3 (fun w' => w'.cell? ⟨w1.heap.size, 0, none⟩ = some (int i64 (-1)) /\ w'.cell? ⟨w1.heap.size, 1, none⟩ = some (int i64 sr) /\ w'.cell? ⟨w1.heap.size, 2, none⟩ = some (int i64 wa)) (go_keep) (first
   | (go_at_call 123; (first | (with_reducible refine (ud HJZ).mono ?_) | (with_reducible refine (ud HJD).mono ?_)); rintro e J ⟨rfl, hbJ0⟩; have hbJ : Below Z.heap.size Z J := ⟨hbJ0.os, hbJ0.tape, hbJ0.output, hbJ0.size, hbJ0.block⟩; have jk0 := (hbJ.cell (p := ⟨w1.heap.size, 0, none⟩) hkZ).trans kz0; have jk1 := (hbJ.cell (p := ⟨w1.heap.size, 1, none⟩) hkZ).trans kz1; have jk2 := (hbJ.cell (p := ⟨w1.heap.size, 2, none⟩) hkZ).trans kz2; have hkJ := Nat.lt_of_lt_of_le hkZ hbJ.size; have HBJ := zd hbJ; clear hbJ hbJ0)
   | (go_at_call 123; (first | (with_reducible refine (ud HJA).mono ?_) | (with_reducible refine (ud HJB).mono ?_) | (with_reducible refine (ud HJC).mono ?_)); rintro e J ⟨rfl, hbJ0⟩; have hbJ : Below (Z.heap.size + 1) (Z.alloc (.cells #[.slice none 0 0] 105)) J := ⟨hbJ0.os, hbJ0.tape, hbJ0.output, hbJ0.size, fun k hk => hbJ0.block k (by first | exact Nat.lt_of_lt_of_eq hk hza.symm | exact hk)⟩; have jk0 := (hbJ.cell (p := ⟨w1.heap.size, 0, none⟩) (Nat.lt_succ_of_lt hkZ)).trans (((Below.refl Z.heap.size Z).alloc (Nat.le_refl _) (.cells #[.slice none 0 0] 105)).cell (p := ⟨w1.heap.size, 0, none⟩) hkZ |>.trans kz0); have jk1 := (hbJ.cell (p := ⟨w1.heap.size, 1, none⟩) (Nat.lt_succ_of_lt hkZ)).trans (((Below.refl Z.heap.size Z).alloc (Nat.le_refl _) (.cells #[.slice none 0 0] 105)).cell (p := ⟨w1.heap.size, 1, none⟩) hkZ |>.trans kz1); have jk2 := (hbJ.cell (p := ⟨w1.heap.size, 2, none⟩) (Nat.lt_succ_of_lt hkZ)).trans (((Below.refl Z.heap.size Z).alloc (Nat.le_refl _) (.cells #[.slice none 0 0] 105)).cell (p := ⟨w1.heap.size, 2, none⟩) hkZ |>.trans kz2); have jbx := (hbJ.block Z.heap.size (Nat.lt_succ_self _)).trans (ud HLA); obtain ⟨jc, -⟩ := zc jbx; have jf := zC jbx 0; have hkJ := Nat.lt_of_lt_of_le (Nat.lt_succ_of_lt hkZ) (Nat.le_trans (Nat.le_of_eq hza.symm) hbJ.size); have hzJ := za jbx; have js0 : (J.setCell ⟨Z.heap.size, 0, none⟩ (.slice (some ⟨J.heap.size, 0, none⟩) 1 1)).cell? ⟨w1.heap.size, 0, none⟩ = some (int i64 (-1)) := (Yn hkz _).trans jk0; have js1 : (J.setCell ⟨Z.heap.size, 0, none⟩ (.slice (some ⟨J.heap.size, 0, none⟩) 1 1)).cell? ⟨w1.heap.size, 1, none⟩ = some (int i64 sr) := (Yn hkz _).trans jk1; have js2 : (J.setCell ⟨Z.heap.size, 0, none⟩ (.slice (some ⟨J.heap.size, 0, none⟩) 1 1)).cell? ⟨w1.heap.size, 2, none⟩ = some (int i64 wa) := (Yn hkz _).trans jk2; have hks : w1.heap.size < (J.setCell ⟨Z.heap.size, 0, none⟩ (.slice (some ⟨J.heap.size, 0, none⟩) 1 1)).heap.size := (by simpa using hkJ); have HBJ := zd hbJ; have JBX := zd jbx; clear hbJ hbJ0 jbx))
  ·have hwJ : Below w.heap.size w J := (ud HWZ).trans ((ud HBJ).mono (ud HWZ).size)
   obtain ⟨e1, e2, e3, -⟩ := box2 J (.cells #[int i64 (-1), int i64 sr, int i64 wa, int i64 1, int i64 nc.cnt, int i64 nc.sum, .int .i32 nc.mn, .int .i32 nc.mx] 148) (.cells #[.slice (some ⟨J.heap.size, 0, none⟩) 1 1] 105)
   exact cont _ _ _ (hwJ.trans (e3.mono hwJ.size)) e2 e1 ⟨by have := hwJ.size; omega, hwJ.size⟩
  ·have hwJ : Below w.heap.size w J := (ud HWZ).trans ((ud HBJ).mono (ud HWZ).size)
   obtain ⟨e1, e2, e3, -⟩ := box2 J (.cells #[.slice (some ⟨J.heap.size + 1, 0, none⟩) 1 1] 105) (.cells #[int i64 (-1), int i64 sr, int i64 wa, int i64 1, int i64 nc.cnt, int i64 nc.sum, .int .i32 nc.mn, .int .i32 nc.mx] 148)
   exact cont _ _ _ (hwJ.trans (e3.mono hwJ.size)) e1 e2 ⟨hwJ.size, by have := hwJ.size; omega⟩
  ·have hwZ := ud HWZ
   have hwA : Below w.heap.size w (Z.alloc (.cells #[.slice none 0 0] 105)) := hwZ.alloc hwZ.size _
   have hwJ : Below w.heap.size w J := hwA.trans ((ud HBJ).mono (by have := hwZ.size; omega))
   have hwS := hwJ.setCell (p := ⟨Z.heap.size, 0, none⟩) hwZ.size (.slice (some ⟨J.heap.size, 0, none⟩) 1 1)
   have hsz : (J.setCell ⟨Z.heap.size, 0, none⟩ (.slice (some ⟨J.heap.size, 0, none⟩) 1 1)).heap.size = J.heap.size := by simp
   have e2 := zk (J.setCell ⟨Z.heap.size, 0, none⟩ (.slice (some ⟨J.heap.size, 0, none⟩) 1 1)) (.cells #[int i64 (-1), int i64 sr, int i64 wa, int i64 1, int i64 nc.cnt, int i64 nc.sum, .int .i32 nc.mn, .int .i32 nc.mx] 148)
   rw [hsz] at e2
   exact cont _ _ _ (hwS.alloc hwS.size _) ((Below.heap_alloc _ _ _ (by rw [hsz]; exact hzJ)).trans (xy (i := 0) (ud JBX) _)) e2 ⟨hwZ.size, by have := hwJ.size; omega⟩
 clear aK1
 cases ok with
 | false =>
  obtain ⟨nc, hnc⟩ : ∃ nc, xz [yt val] = nc := ⟨_, rfl⟩
  have HADD := zd (zge (ud HWIN) ⟨hv1, hv2⟩ (ud HOK))
  rw [hnc] at HADD
  have hY1 := ((ud HBY).block (w1.heap.size + 1) hrX).trans (ud Y1)
  have hCA : CAt Y (w1.heap.size + 1) [yt val] := CAt.of_owns (base := 0) (cap := 1) (e := 115) (Xl (xs := vK (yt val)) hY1 rfl (by simp) (by simp [maxLen]) (Nat.zero_le _))
  have hrY : w1.heap.size + 1 < Y.heap.size := Nat.lt_of_lt_of_le hrX (ud HBY).size
  have HJ : ∀ Z', Below Y.heap.size Y Z' -> Hid (Calls Tryz.prog 123 #[.slice (some ⟨w1.heap.size + 1, 0, none⟩) 1 1] Z' fun e w' => e = .returned (.agg #[int i64 nc.cnt, int i64 nc.sum, .int .i32 nc.mn, .int .i32 nc.mx]) /\ Below Z'.heap.size Z' w') := fun Z' hZ' => by
   have := Yy (some ⟨w1.heap.size + 1, 0, none⟩) (w1.heap.size + 1) 1 [yt val] (fun _ => rfl) (by simp) Z' (Nat.lt_of_lt_of_le hrY hZ'.size) (hCA.below hZ' hrY)
   rw [hnc] at this; exact this
  have HWZ := zd ((ud HWX).trans ((ud HBY).mono (ud HWX).size))
  have HLK := zd (((ud HBY).block _ hkX).trans (ud Y0))
  clear hY1 hCA hnc
  go_wp2_with fail
  exact tail _ _ _ _ _ _ _ _ _ _ _ _ _ _ _ _ _ _ _ _ _ _ _ _ _ nc Y HJ HADD HWZ HLK
 | true =>
  obtain ⟨-, -, -, -, o1, o2, o3, o4, -⟩ := zc (ud HLY)
  have hw1 := (ud HB1).size
  have hY1 := ((ud HBY).block (w1.heap.size + 1) hrX).trans (ud Y1)
  have HOW := zd (Xl (base := w.heap.size) (xs := [yt val].flatMap vK) (n := 1) (size := 4) hY1 rfl (by decide) (by simp [maxLen]) (by omega))
  have hXY : X.heap.size < Y.heap.size := by rw [ud HZY]; omega
  have hbz : w.heap.size <= Y.heap.size := by omega
  clear hY1
  go_wp2_with (first | (at_builtin; refine zdK rfl _ _ rfl w.heap.size (.slice (some ⟨w1.heap.size + 1, 0, none⟩) 1 1) [yt val] sv.2.cl rfl ((ud HOW).alloc _) Y.heap.size rfl (zk _ _) ?hll ?hbb ?_; (case hll => simp); (case hbb => (rw [zI]; omega)); intro g cap Z hown hgrow hlt; have HG := zd hgrow; have HO := zd hown; clear hgrow hown) | go_in)
  obtain ⟨nc, hnc⟩ : ∃ nc, xz [yt val, sv.2.cl] = nc := ⟨_, rfl⟩
  have HADD := zd (zgf (ud HWIN) ⟨hv1, hv2⟩ (ud HOK) (ud HSV) hsm)
  rw [hnc] at HADD
  have hCA : CAt Z g [yt val, sv.2.cl] := CAt.of_owns (base := w.heap.size) (cap := cap) (e := 115) (ud HO)
  have HJ : ∀ Z', Below Z.heap.size Z Z' -> Hid (Calls Tryz.prog 123 #[.slice (some ⟨g, 0, none⟩) 2 cap] Z' fun e w' => e = .returned (.agg #[int i64 nc.cnt, int i64 nc.sum, .int .i32 nc.mn, .int .i32 nc.mx]) /\ Below Z'.heap.size Z' w') := fun Z' hZ' => by
   have := Yy (some ⟨g, 0, none⟩) g cap [yt val, sv.2.cl] (fun _ => rfl) (by simp) Z' (Nat.lt_of_lt_of_le hlt hZ'.size) (hCA.below hZ' hlt)
   rw [hnc] at this; exact this
  have hwY := (ud HWX).trans ((ud HBY).mono (ud HWX).size)
  have hgb := (ud HG)
  have hown1 : (Value.slice (some ⟨w1.heap.size + 1, 0, none⟩) 1 1).ownBlock = some (w1.heap.size + 1) := rfl
  rw [hown1] at hgb
  have hwA := hwY.alloc hwY.size (.cells #[int i64 sv.2.cl.cnt, int i64 sv.2.cl.sum, .int .i32 sv.2.cl.mn, .int .i32 sv.2.cl.mx] 115)
  have HWZ := zd (hwA.grown hgb hwA.size (fun k e => by cases e; omega))
  have hzA := zI Y (.cells #[int i64 sv.2.cl.cnt, int i64 sv.2.cl.sum, .int .i32 sv.2.cl.mn, .int .i32 sv.2.cl.mx] 115)
  have hkY := ((ud HBY).block _ hkX).trans (ud Y0)
  have HLK := zd ((hgb.block w1.heap.size (by omega) (by simp)).trans ((Below.heap_alloc _ _ _ (by omega)).trans hkY))
  clear hCA hnc hwY hgb hown1 hwA hzA hkY o1 o2 o3 o4
  exact tail _ _ _ _ _ _ _ _ _ _ _ _ _ _ _ _ _ _ _ _ _ _ _ _ _ nc Z HJ HADD HWZ HLK
end Go.Proofs.YtndhpgciopcncaaGreatDoor
