import Derived.Test.YtpbimdkclnekeaaGreatKBrd3
import Derived.Test.YtpbimdkclnekeaaGreatKJn1

namespace Go.Proofs.YtpbimdkclnekeaaGreat
open Value (int)
open IntKind (i64)
open Go.RowKit Go.Maps Go.Shelf
open Go.ChangeMaps (setBlock)
set_option linter.unusedVariables false
theorem zed {a w : World} (h : Below a.heap.size a w) (o : Obj) : Below a.heap.size a (w.alloc o) := h.alloc h.size o
theorem fresh1 (W : World) (z : Obj) : (W.alloc z).heap[W.heap.size]? = some z := zag W z
theorem fresh2a (W : World) (z z2 : Obj) : ((W.alloc z).alloc z2).heap[W.heap.size]? = some z := (Below.heap_alloc _ _ _ (by simp)).trans (zag _ _)
theorem fresh2b (W : World) (z z2 : Obj) : ((W.alloc z).alloc z2).heap[W.heap.size + 1]? = some z2 := by have := zag (W.alloc z) z2; rwa [zbm] at this
abbrev set4s (w : World) (g : Nat) (a b c d : Value) : World := (((w.setCell ⟨g, 0, none⟩ a).setCell ⟨g, 1, none⟩ b).setCell ⟨g, 2, none⟩ c).setCell ⟨g, 3, none⟩ d
theorem set4_at {w : World} {g : Nat} {p q r s : Value} {t : TypeId} {fr : Nat × Nat} (h : w.heap[g]? = some (.cells #[p, q, r, s] t fr)) (a b c d : Value) : (set4s w g a b c d).heap[g]? = some (.cells #[a, b, c, d] t fr) := zcu (i := 3) (zcu (i := 2) (zcu (i := 1) (zcu (i := 0) h a) b) c) d
theorem set4_off {w : World} {g k : Nat} (h : k ≠ g) (a b c d : Value) : (set4s w g a b c d).heap[k]? = w.heap[k]? := by
 unfold set4s
 rw [Below.heap_setCell _ ⟨g, 3, none⟩ _ _ h, Below.heap_setCell _ ⟨g, 2, none⟩ _ _ h, Below.heap_setCell _ ⟨g, 1, none⟩ _ _ h, Below.heap_setCell _ ⟨g, 0, none⟩ _ _ h]
theorem below4s {B : Nat} {w : World} {g : Nat} (h : B <= g) (a b c d : Value) : Below B w (set4s w g a b c d) := ((((Below.refl _ _).setCell (p := ⟨g, 0, none⟩) h _).setCell (p := ⟨g, 1, none⟩) h _).setCell (p := ⟨g, 2, none⟩) h _).setCell (p := ⟨g, 3, none⟩) h _
theorem size4s (w : World) (g : Nat) (a b c d : Value) : (set4s w g a b c d).heap.size = w.heap.size := by simp [set4s]
theorem old_new {w : World} {g : Nat} {p q r s : Value} {t : TypeId} {fr : Nat × Nat} (h : w.heap[g]? = some (.cells #[p, q, r, s] t fr)) (a b c d : Value) (o : Obj) : ((set4s w g a b c d).alloc o).heap[g]? = some (.cells #[a, b, c, d] t fr) :=
 (Below.heap_alloc _ _ _ (by rw [size4s]; exact zaa h)).trans (set4_at h a b c d)
theorem new_old (w : World) (g : Nat) (a b c d : Value) (o : Obj) : ((set4s w g a b c d).alloc o).heap[w.heap.size]? = some o := by have := zag (set4s w g a b c d) o; rwa [size4s] at this
theorem new_set {w : World} {g : Nat} (h : w.heap.size ≠ g) (a b c d : Value) (o : Obj) : (set4s (w.alloc o) g a b c d).heap[w.heap.size]? = some o := (set4_off h a b c d).trans (zag _ _)
theorem old_set {w : World} {g : Nat} {p q r s : Value} {t : TypeId} {fr : Nat × Nat} (h : w.heap[g]? = some (.cells #[p, q, r, s] t fr)) (a b c d : Value) (o : Obj) : (set4s (w.alloc o) g a b c d).heap[g]? = some (.cells #[a, b, c, d] t fr) :=
 set4_at ((Below.heap_alloc _ _ _ (zaa h)).trans h) a b c d
theorem two_fst {w : World} {g k : Nat} {p q r s : Value} {t : TypeId} {fr : Nat × Nat} (hn : g ≠ k) (h : w.heap[g]? = some (.cells #[p, q, r, s] t fr)) (a b c d a' b' c' d' : Value) : (set4s (set4s w g a b c d) k a' b' c' d').heap[g]? = some (.cells #[a, b, c, d] t fr) := (set4_off hn a' b' c' d').trans (set4_at h a b c d)
theorem two_snd {w : World} {g k : Nat} {p q r s : Value} {t : TypeId} {fr : Nat × Nat} (hn : k ≠ g) (h : w.heap[k]? = some (.cells #[p, q, r, s] t fr)) (a b c d a' b' c' d' : Value) : (set4s (set4s w g a b c d) k a' b' c' d').heap[k]? = some (.cells #[a', b', c', d'] t fr) := set4_at ((set4_off hn a b c d).trans h) a' b' c' d'
theorem bel_aa {n0 : Nat} {w V : World} (h : Below n0 w V) (h1 : n0 <= V.heap.size) (o o2 : Obj) : Below n0 w ((V.alloc o).alloc o2) := (h.alloc h1 o).alloc (by rw [zbm]; omega) o2
theorem bel_sa {n0 g : Nat} {w V : World} (h : Below n0 w V) (h1 : n0 <= V.heap.size) (h2 : n0 <= g) (a b c d : Value) (o : Obj) : Below n0 w ((set4s V g a b c d).alloc o) := (h.trans (below4s h2 a b c d)).alloc (by rw [size4s]; exact h1) o
theorem bel_as {n0 g : Nat} {w V : World} (h : Below n0 w V) (h1 : n0 <= V.heap.size) (h2 : n0 <= g) (a b c d : Value) (o : Obj) : Below n0 w (set4s (V.alloc o) g a b c d) := (h.alloc h1 o).trans (below4s h2 a b c d)
theorem bel_ss {n0 g k : Nat} {w V : World} (h : Below n0 w V) (h1 : n0 <= g) (h2 : n0 <= k) (a b c d a' b' c' d' : Value) : Below n0 w (set4s (set4s V g a b c d) k a' b' c' d') := (h.trans (below4s h1 a b c d)).trans (below4s h2 a' b' c' d')
def byKeyV (x y : Tsk) : Int := orL [cmpJ x.kd y.kd, cmpJ x.s.t y.s.t, cmpJ x.s.ser y.s.ser, cmpJ x.s.win y.s.win]
set_option maxRecDepth 20000 in
set_option maxHeartbeats 8000000 in
theorem byKey_any (x y : Tsk) (w : World) :
  Calls Tryz.prog 91 #[.agg #[.iface x.jt (.agg #[int i64 x.s.t, int i64 x.s.ser, int i64 x.s.win]), int i64 x.since, int i64 x.tries, int i64 x.rest], .agg #[.iface y.jt (.agg #[int i64 y.s.t, int i64 y.s.ser, int i64 y.s.win]), int i64 y.since, int i64 y.tries, int i64 y.rest]] w fun e w' => e = .returned (int i64 (byKeyV x y)) /\ Below w.heap.size w w' := by
 have HKX := fun W => zac (keyOf_any x W)
 have HKY := fun W => zac (keyOf_any y W)
 obtain ⟨b1, b2, hbw, bz⟩ := box2 w (.cells #[.iface x.jt (.agg #[int i64 x.s.t, int i64 x.s.ser, int i64 x.s.win]), int i64 x.since, int i64 x.tries, int i64 x.rest] 162) (.cells #[.iface y.jt (.agg #[int i64 y.s.t, int i64 y.s.ser, int i64 y.s.win]), int i64 y.since, int i64 y.tries, int i64 y.rest] 162)
 have x0 : ((w.alloc (.cells #[.iface x.jt (.agg #[int i64 x.s.t, int i64 x.s.ser, int i64 x.s.win]), int i64 x.since, int i64 x.tries, int i64 x.rest] 162)).alloc (.cells #[.iface y.jt (.agg #[int i64 y.s.t, int i64 y.s.ser, int i64 y.s.win]), int i64 y.since, int i64 y.tries, int i64 y.rest] 162)).cell? ⟨w.heap.size, 0, none⟩ = some (.iface x.jt (.agg #[int i64 x.s.t, int i64 x.s.ser, int i64 x.s.win])) := by rw [zab b1]; rfl
 have y0 : ((w.alloc (.cells #[.iface x.jt (.agg #[int i64 x.s.t, int i64 x.s.ser, int i64 x.s.win]), int i64 x.since, int i64 x.tries, int i64 x.rest] 162)).alloc (.cells #[.iface y.jt (.agg #[int i64 y.s.t, int i64 y.s.ser, int i64 y.s.win]), int i64 y.since, int i64 y.tries, int i64 y.rest] 162)).cell? ⟨w.heap.size + 1, 0, none⟩ = some (.iface y.jt (.agg #[int i64 y.s.t, int i64 y.s.ser, int i64 y.s.win])) := by rw [zab b2]; rfl
 have HBW := zac hbw
 clear b1 b2 hbw
 go_enter Tryz.func91, Tryz.ntmps91
 go_wp2_with fail
 generalize ((w.alloc (.cells #[.iface x.jt (.agg #[int i64 x.s.t, int i64 x.s.ser, int i64 x.s.win]), int i64 x.since, int i64 x.tries, int i64 x.rest] 162)).alloc (.cells #[.iface y.jt (.agg #[int i64 y.s.t, int i64 y.s.ser, int i64 y.s.win]), int i64 y.since, int i64 y.tries, int i64 y.rest] 162)) = X at *
 have l0 : w.heap.size < X.heap.size := by omega
 have l1 : w.heap.size + 1 < X.heap.size := by omega
 have n01 : ¬ w.heap.size = w.heap.size + 1 := by omega
 generalize w.heap.size + 1 = n1 at *
 generalize hn0 : w.heap.size = n0 at *
 clear bz
 rename_i Q1 K1 hK1
 have HR2' : ∀ (bj bk : Nat) (Y : World), Y.heap[bj]? = some (.cells #[int i64 x.kd, int i64 x.s.t, int i64 x.s.ser, int i64 x.s.win] 147 (0, 0)) -> Y.heap[bk]? = some (.cells #[int i64 y.kd, int i64 y.s.t, int i64 y.s.ser, int i64 y.s.win] 147 (0, 0)) -> Below n0 w Y -> K1 { tmps := #[.agg #[.iface x.jt (.agg #[int i64 x.s.t, int i64 x.s.ser, int i64 x.s.win]), int i64 x.since, int i64 x.tries, int i64 x.rest], .agg #[.iface y.jt (.agg #[int i64 y.s.t, int i64 y.s.ser, int i64 y.s.win]), int i64 y.since, int i64 y.tries, int i64 y.rest], .pointer (some ⟨n0, 0, none⟩), .pointer (some ⟨n1, 0, none⟩), int i64 0, .pointer (some ⟨bj, 0, none⟩), .pointer (some ⟨bk, 0, none⟩), .pointer (some ⟨n0, 0, none⟩), .iface x.jt (.agg #[int i64 x.s.t, int i64 x.s.ser, int i64 x.s.win]), .agg #[int i64 x.kd, int i64 x.s.t, int i64 x.s.ser, int i64 x.s.win], .pointer (some ⟨n1, 0, none⟩), .iface y.jt (.agg #[int i64 y.s.t, int i64 y.s.ser, int i64 y.s.win]), .agg #[int i64 y.kd, int i64 y.s.t, int i64 y.s.ser, int i64 y.s.win], undef, undef, undef, undef, undef, undef, undef, undef, undef, undef, undef, undef, undef, undef, undef, undef, undef, undef, undef, undef, undef, undef, undef, undef, undef, undef, undef, undef], defers := [] } Y := by
  intro bj bk Y hj hk hY
  apply hK1
  clear HKX HKY x0 y0 l0 l1 HBW hK1
  have HY := zac hY
  clear hY
  have HCM := fun (a b : Int) W => zac (compare64_any a b W)
  have HOR : ∀ W : World, W.heap[Y.heap.size]? = some (.cells #[int i64 (cmpJ x.kd y.kd), int i64 (cmpJ x.s.t y.s.t), int i64 (cmpJ x.s.ser y.s.ser), int i64 (cmpJ x.s.win y.s.win)] 3) -> Hid (Calls Tryz.prog 138 #[.slice (some ⟨Y.heap.size, 0, none⟩) 4 4] W fun e w' => e = .returned (int i64 (byKeyV x y)) /\ w' = W) := fun W hW =>
   or_any [cmpJ x.kd y.kd, cmpJ x.s.t y.s.t, cmpJ x.s.ser y.s.ser, cmpJ x.s.win y.s.win] (by simp) W Y.heap.size (fun k v hk => by
    rw [zab hW]
    match k, hk with
    | 0, hk => simp at hk; subst hk; rfl
    | 1, hk => simp at hk; subst hk; rfl
    | 2, hk => simp at hk; subst hk; rfl
    | 3, hk => simp at hk; subst hk; rfl)
  have HO0 := HOR (Y.alloc (.cells #[int i64 (cmpJ x.kd y.kd), int i64 (cmpJ x.s.t y.s.t), int i64 (cmpJ x.s.ser y.s.ser), int i64 (cmpJ x.s.win y.s.win)] 3)) (zag _ _)
  have HO1 := HOR (Y.alloc (.cells #[int i64 (cmpJ x.kd y.kd), int i64 (cmpJ x.s.t y.s.t), int i64 (cmpJ x.s.ser y.s.ser), int i64 (cmpJ x.s.win y.s.win)] 3)).drew (zag _ _)
  have HO2 := HOR (Y.drew.alloc (.cells #[int i64 (cmpJ x.kd y.kd), int i64 (cmpJ x.s.t y.s.t), int i64 (cmpJ x.s.ser y.s.ser), int i64 (cmpJ x.s.win y.s.win)] 3)) (zag Y.drew _)
  have j0 : Y.cell? ⟨bj, 0, none⟩ = some (int i64 x.kd) := by rw [zab hj]; rfl
  have j1 : Y.cell? ⟨bj, 1, none⟩ = some (int i64 x.s.t) := by rw [zab hj]; rfl
  have j2 : Y.cell? ⟨bj, 2, none⟩ = some (int i64 x.s.ser) := by rw [zab hj]; rfl
  have j3 : Y.cell? ⟨bj, 3, none⟩ = some (int i64 x.s.win) := by rw [zab hj]; rfl
  have k0 : Y.cell? ⟨bk, 0, none⟩ = some (int i64 y.kd) := by rw [zab hk]; rfl
  have k1 : Y.cell? ⟨bk, 1, none⟩ = some (int i64 y.s.t) := by rw [zab hk]; rfl
  have k2 : Y.cell? ⟨bk, 2, none⟩ = some (int i64 y.s.ser) := by rw [zab hk]; rfl
  have k3 : Y.cell? ⟨bk, 3, none⟩ = some (int i64 y.s.win) := by rw [zab hk]; rfl
  have ljY := zaa hj
  have lkY := zaa hk
  clear hj hk HOR
  generalize hBV : byKeyV x y = BV at *
  have HBV := zac hBV
  clear hBV
  generalize hc0 : cmpJ x.kd y.kd = C0 at *
  generalize hc1 : cmpJ x.s.t y.s.t = C1 at *
  generalize hc2 : cmpJ x.s.ser y.s.ser = C2 at *
  generalize hc3 : cmpJ x.s.win y.s.win = C3 at *
  go_wp2_with fail
  go_region_held3 (fun w' => w'.cell? ⟨bj, 0, none⟩ = some (int i64 x.kd) /\ w'.cell? ⟨bj, 1, none⟩ = some (int i64 x.s.t) /\ w'.cell? ⟨bj, 2, none⟩ = some (int i64 x.s.ser) /\ w'.cell? ⟨bj, 3, none⟩ = some (int i64 x.s.win) /\ w'.cell? ⟨bk, 0, none⟩ = some (int i64 y.kd) /\ w'.cell? ⟨bk, 1, none⟩ = some (int i64 y.s.t) /\ w'.cell? ⟨bk, 2, none⟩ = some (int i64 y.s.ser) /\ w'.cell? ⟨bk, 3, none⟩ = some (int i64 y.s.win)) (go_keep) (first
   | (go_at_call 137; (with_reducible refine (ud (HCM _ _ _)).mono ?_); rintro e V ⟨rfl, rfl⟩)
   | (go_at_call 138; (first | (with_reducible refine (ud HO0).mono ?_) | (with_reducible refine (ud HO1).mono ?_) | (with_reducible refine (ud HO2).mono ?_)); rintro e V ⟨rfl, rfl⟩))
  go_wp2_with fail
  go_ret
  have hY := ud HY
  exact ⟨by rw [ud HBV]; rfl, by rw [hn0]; exact (hY.alloc (by have := hY.size; omega) _).drew⟩
 have HR2 := zac HR2'
 clear hK1 HR2'
 go_region_held3 (fun w' => w'.cell? ⟨n0, 0, none⟩ = some (.iface x.jt (.agg #[int i64 x.s.t, int i64 x.s.ser, int i64 x.s.win])) /\ w'.cell? ⟨n1, 0, none⟩ = some (.iface y.jt (.agg #[int i64 y.s.t, int i64 y.s.ser, int i64 y.s.win]))) (go_keep) (first
  | (go_at_call 87; (with_reducible refine (ud (HKX _)).mono ?_); rintro e V1 ⟨rfl, hbV1⟩; have uaq : V1.heap[X.heap.size]? = some (.cells #[int i64 0, int i64 0, int i64 0, int i64 0] 147 (0, 0)) := (hbV1.block _ (by first | (simp; done) | (simp; omega))).trans (fresh2a _ _ _); have ubq : V1.heap[X.heap.size + 1]? = some (.cells #[int i64 0, int i64 0, int i64 0, int i64 0] 147 (0, 0)) := (hbV1.block _ (by simp)).trans (fresh2b _ _ _); have ua0 : V1.cell? ⟨X.heap.size, 0, none⟩ = some (int i64 0) := (by rw [zab uaq]; rfl); have ua1 : V1.cell? ⟨X.heap.size, 1, none⟩ = some (int i64 0) := (by rw [zab uaq]; rfl); have ua2 : V1.cell? ⟨X.heap.size, 2, none⟩ = some (int i64 0) := (by rw [zab uaq]; rfl); have ua3 : V1.cell? ⟨X.heap.size, 3, none⟩ = some (int i64 0) := (by rw [zab uaq]; rfl); have uaf := fun j => zax uaq j; have ual := zaa uaq; have uan0 : ¬ n0 = X.heap.size := (by omega); have uam0 : ¬ X.heap.size = n0 := (by omega); have uan1 : ¬ n1 = X.heap.size := (by omega); have uam1 : ¬ X.heap.size = n1 := (by omega); have ub0 : V1.cell? ⟨X.heap.size + 1, 0, none⟩ = some (int i64 0) := (by rw [zab ubq]; rfl); have ub1 : V1.cell? ⟨X.heap.size + 1, 1, none⟩ = some (int i64 0) := (by rw [zab ubq]; rfl); have ub2 : V1.cell? ⟨X.heap.size + 1, 2, none⟩ = some (int i64 0) := (by rw [zab ubq]; rfl); have ub3 : V1.cell? ⟨X.heap.size + 1, 3, none⟩ = some (int i64 0) := (by rw [zab ubq]; rfl); have ubf := fun j => zax ubq j; have ubl := zaa ubq; have ubn0 : ¬ n0 = X.heap.size + 1 := (by omega); have ubm0 : ¬ X.heap.size + 1 = n0 := (by omega); have ubn1 : ¬ n1 = X.heap.size + 1 := (by omega); have ubm1 : ¬ X.heap.size + 1 = n1 := (by omega); have ubn2 : ¬ X.heap.size = X.heap.size + 1 := (by omega); have ubm2 : ¬ X.heap.size + 1 = X.heap.size := (by omega); have UAQ := zac uaq; have UBQ := zac ubq; clear uaq; clear ubq; have hX1 : Below X.heap.size X V1 := Below.trans (b := _) (by (repeat (first | exact Below.refl _ _ | assumption | apply Below.drew | apply zed))) (hbV1.mono (by first | exact Nat.le_refl _ | (simp; done) | (simp; omega))); have x1 := (hX1.cell (p := ⟨n0, 0, none⟩) l0).trans x0; have y1 := (hX1.cell (p := ⟨n1, 0, none⟩) l1).trans y0; have l01 := Nat.lt_of_lt_of_le l0 hX1.size; have l11 := Nat.lt_of_lt_of_le l1 hX1.size; have HX1 := zac hX1; clear hbV1 hX1)
  | (go_at_call 87; (with_reducible refine (ud (HKX _)).mono ?_); rintro e V1 ⟨rfl, hbV1⟩; have uaq : V1.heap[X.heap.size]? = some (.cells #[int i64 0, int i64 0, int i64 0, int i64 0] 147 (0, 0)) := (hbV1.block _ (by simp)).trans (fresh1 _ _); have ua0 : V1.cell? ⟨X.heap.size, 0, none⟩ = some (int i64 0) := (by rw [zab uaq]; rfl); have ua1 : V1.cell? ⟨X.heap.size, 1, none⟩ = some (int i64 0) := (by rw [zab uaq]; rfl); have ua2 : V1.cell? ⟨X.heap.size, 2, none⟩ = some (int i64 0) := (by rw [zab uaq]; rfl); have ua3 : V1.cell? ⟨X.heap.size, 3, none⟩ = some (int i64 0) := (by rw [zab uaq]; rfl); have uaf := fun j => zax uaq j; have ual := zaa uaq; have uan0 : ¬ n0 = X.heap.size := (by omega); have uam0 : ¬ X.heap.size = n0 := (by omega); have uan1 : ¬ n1 = X.heap.size := (by omega); have uam1 : ¬ X.heap.size = n1 := (by omega); have UAQ := zac uaq; clear uaq; have hX1 : Below X.heap.size X V1 := Below.trans (b := _) (by (repeat (first | exact Below.refl _ _ | assumption | apply Below.drew | apply zed))) (hbV1.mono (by first | exact Nat.le_refl _ | (simp; done) | (simp; omega))); have x1 := (hX1.cell (p := ⟨n0, 0, none⟩) l0).trans x0; have y1 := (hX1.cell (p := ⟨n1, 0, none⟩) l1).trans y0; have l01 := Nat.lt_of_lt_of_le l0 hX1.size; have l11 := Nat.lt_of_lt_of_le l1 hX1.size; have HX1 := zac hX1; clear hbV1 hX1)
  | (go_at_call 87; (with_reducible refine (ud (HKX _)).mono ?_); rintro e V1 ⟨rfl, hbV1⟩; have hX1 : Below X.heap.size X V1 := Below.trans (b := _) (by (repeat (first | exact Below.refl _ _ | assumption | apply Below.drew | apply zed))) (hbV1.mono (by first | exact Nat.le_refl _ | (simp; done) | (simp; omega))); have x1 := (hX1.cell (p := ⟨n0, 0, none⟩) l0).trans x0; have y1 := (hX1.cell (p := ⟨n1, 0, none⟩) l1).trans y0; have l01 := Nat.lt_of_lt_of_le l0 hX1.size; have l11 := Nat.lt_of_lt_of_le l1 hX1.size; have HX1 := zac hX1; clear hbV1 hX1)
  | (go_at_call 87; (with_reducible refine (ud (HKY _)).mono ?_); rintro e V2 ⟨rfl, hbV2⟩; have hV12 : Below V1.heap.size V1 V2 := Below.trans (b := _) (by (repeat (first | exact Below.refl _ _ | assumption | apply Below.drew | apply zed))) (hbV2.mono (by first | exact Nat.le_refl _ | (simp; done) | (simp; omega))); have uaq' := (hV12.block _ (zaa (ud UAQ))).trans (ud UAQ); have uav0 : V2.cell? ⟨X.heap.size, 0, none⟩ = some (int i64 0) := (by rw [zab uaq']; rfl); have uav1 : V2.cell? ⟨X.heap.size, 1, none⟩ = some (int i64 0) := (by rw [zab uaq']; rfl); have uav2 : V2.cell? ⟨X.heap.size, 2, none⟩ = some (int i64 0) := (by rw [zab uaq']; rfl); have uav3 : V2.cell? ⟨X.heap.size, 3, none⟩ = some (int i64 0) := (by rw [zab uaq']; rfl); have uavf := fun j => zax uaq' j; have uavl := zaa uaq'; have uavn0 : ¬ n0 = X.heap.size := (by omega); have uavm0 : ¬ X.heap.size = n0 := (by omega); have uavn1 : ¬ n1 = X.heap.size := (by omega); have uavm1 : ¬ X.heap.size = n1 := (by omega); have UAV := zac uaq'; clear uaq'; have ubq' := (hV12.block _ (zaa (ud UBQ))).trans (ud UBQ); have ubv0 : V2.cell? ⟨X.heap.size + 1, 0, none⟩ = some (int i64 0) := (by rw [zab ubq']; rfl); have ubv1 : V2.cell? ⟨X.heap.size + 1, 1, none⟩ = some (int i64 0) := (by rw [zab ubq']; rfl); have ubv2 : V2.cell? ⟨X.heap.size + 1, 2, none⟩ = some (int i64 0) := (by rw [zab ubq']; rfl); have ubv3 : V2.cell? ⟨X.heap.size + 1, 3, none⟩ = some (int i64 0) := (by rw [zab ubq']; rfl); have ubvf := fun j => zax ubq' j; have ubvl := zaa ubq'; have ubvn0 : ¬ n0 = X.heap.size + 1 := (by omega); have ubvm0 : ¬ X.heap.size + 1 = n0 := (by omega); have ubvn1 : ¬ n1 = X.heap.size + 1 := (by omega); have ubvm1 : ¬ X.heap.size + 1 = n1 := (by omega); have ubvn2 : ¬ X.heap.size = X.heap.size + 1 := (by omega); have ubvm2 : ¬ X.heap.size + 1 = X.heap.size := (by omega); have UBV := zac ubq'; clear ubq'; have hX2 : Below X.heap.size X V2 := (ud HX1).trans (hV12.mono (ud HX1).size); have x2 := (hX2.cell (p := ⟨n0, 0, none⟩) l0).trans x0; have y2 := (hX2.cell (p := ⟨n1, 0, none⟩) l1).trans y0; have l02 := Nat.lt_of_lt_of_le l0 hX2.size; have l12 := Nat.lt_of_lt_of_le l1 hX2.size; have HX2 := zac hX2; clear hbV2 hX2 hV12)
  | (go_at_call 87; (with_reducible refine (ud (HKY _)).mono ?_); rintro e V2 ⟨rfl, hbV2⟩; have vaq : V2.heap[V1.heap.size]? = some (.cells #[int i64 0, int i64 0, int i64 0, int i64 0] 147 (0, 0)) := (hbV2.block _ (by simp)).trans (fresh1 _ _); have va0 : V2.cell? ⟨V1.heap.size, 0, none⟩ = some (int i64 0) := (by rw [zab vaq]; rfl); have va1 : V2.cell? ⟨V1.heap.size, 1, none⟩ = some (int i64 0) := (by rw [zab vaq]; rfl); have va2 : V2.cell? ⟨V1.heap.size, 2, none⟩ = some (int i64 0) := (by rw [zab vaq]; rfl); have va3 : V2.cell? ⟨V1.heap.size, 3, none⟩ = some (int i64 0) := (by rw [zab vaq]; rfl); have vaf := fun j => zax vaq j; have val := zaa vaq; have van0 : ¬ n0 = V1.heap.size := (by omega); have vam0 : ¬ V1.heap.size = n0 := (by omega); have van1 : ¬ n1 = V1.heap.size := (by omega); have vam1 : ¬ V1.heap.size = n1 := (by omega); have van2 : ¬ X.heap.size = V1.heap.size := (by omega); have vam2 : ¬ V1.heap.size = X.heap.size := (by omega); have VAQ := zac vaq; clear vaq; have hV12 : Below V1.heap.size V1 V2 := Below.trans (b := _) (by (repeat (first | exact Below.refl _ _ | assumption | apply Below.drew | apply zed))) (hbV2.mono (by first | exact Nat.le_refl _ | (simp; done) | (simp; omega))); have uaq' := (hV12.block _ (zaa (ud UAQ))).trans (ud UAQ); have uav0 : V2.cell? ⟨X.heap.size, 0, none⟩ = some (int i64 0) := (by rw [zab uaq']; rfl); have uav1 : V2.cell? ⟨X.heap.size, 1, none⟩ = some (int i64 0) := (by rw [zab uaq']; rfl); have uav2 : V2.cell? ⟨X.heap.size, 2, none⟩ = some (int i64 0) := (by rw [zab uaq']; rfl); have uav3 : V2.cell? ⟨X.heap.size, 3, none⟩ = some (int i64 0) := (by rw [zab uaq']; rfl); have uavf := fun j => zax uaq' j; have uavl := zaa uaq'; have uavn0 : ¬ n0 = X.heap.size := (by omega); have uavm0 : ¬ X.heap.size = n0 := (by omega); have uavn1 : ¬ n1 = X.heap.size := (by omega); have uavm1 : ¬ X.heap.size = n1 := (by omega); have UAV := zac uaq'; clear uaq'; have hX2 : Below X.heap.size X V2 := (ud HX1).trans (hV12.mono (ud HX1).size); have x2 := (hX2.cell (p := ⟨n0, 0, none⟩) l0).trans x0; have y2 := (hX2.cell (p := ⟨n1, 0, none⟩) l1).trans y0; have l02 := Nat.lt_of_lt_of_le l0 hX2.size; have l12 := Nat.lt_of_lt_of_le l1 hX2.size; have HX2 := zac hX2; clear hbV2 hX2 hV12)
  | (go_at_call 87; (with_reducible refine (ud (HKY _)).mono ?_); rintro e V2 ⟨rfl, hbV2⟩; have hV12 : Below V1.heap.size V1 V2 := Below.trans (b := _) (by (repeat (first | exact Below.refl _ _ | assumption | apply Below.drew | apply zed))) (hbV2.mono (by first | exact Nat.le_refl _ | (simp; done) | (simp; omega))); have uaq' := (hV12.block _ (zaa (ud UAQ))).trans (ud UAQ); have uav0 : V2.cell? ⟨X.heap.size, 0, none⟩ = some (int i64 0) := (by rw [zab uaq']; rfl); have uav1 : V2.cell? ⟨X.heap.size, 1, none⟩ = some (int i64 0) := (by rw [zab uaq']; rfl); have uav2 : V2.cell? ⟨X.heap.size, 2, none⟩ = some (int i64 0) := (by rw [zab uaq']; rfl); have uav3 : V2.cell? ⟨X.heap.size, 3, none⟩ = some (int i64 0) := (by rw [zab uaq']; rfl); have uavf := fun j => zax uaq' j; have uavl := zaa uaq'; have uavn0 : ¬ n0 = X.heap.size := (by omega); have uavm0 : ¬ X.heap.size = n0 := (by omega); have uavn1 : ¬ n1 = X.heap.size := (by omega); have uavm1 : ¬ X.heap.size = n1 := (by omega); have UAV := zac uaq'; clear uaq'; have hX2 : Below X.heap.size X V2 := (ud HX1).trans (hV12.mono (ud HX1).size); have x2 := (hX2.cell (p := ⟨n0, 0, none⟩) l0).trans x0; have y2 := (hX2.cell (p := ⟨n1, 0, none⟩) l1).trans y0; have l02 := Nat.lt_of_lt_of_le l0 hX2.size; have l12 := Nat.lt_of_lt_of_le l1 hX2.size; have HX2 := zac hX2; clear hbV2 hX2 hV12)
  | (go_at_call 87; (with_reducible refine (ud (HKY _)).mono ?_); rintro e V2 ⟨rfl, hbV2⟩; have vaq : V2.heap[V1.heap.size]? = some (.cells #[int i64 0, int i64 0, int i64 0, int i64 0] 147 (0, 0)) := (hbV2.block _ (by first | (simp; done) | (simp; omega))).trans (fresh2a _ _ _); have vbq : V2.heap[V1.heap.size + 1]? = some (.cells #[int i64 0, int i64 0, int i64 0, int i64 0] 147 (0, 0)) := (hbV2.block _ (by simp)).trans (fresh2b _ _ _); have va0 : V2.cell? ⟨V1.heap.size, 0, none⟩ = some (int i64 0) := (by rw [zab vaq]; rfl); have va1 : V2.cell? ⟨V1.heap.size, 1, none⟩ = some (int i64 0) := (by rw [zab vaq]; rfl); have va2 : V2.cell? ⟨V1.heap.size, 2, none⟩ = some (int i64 0) := (by rw [zab vaq]; rfl); have va3 : V2.cell? ⟨V1.heap.size, 3, none⟩ = some (int i64 0) := (by rw [zab vaq]; rfl); have vaf := fun j => zax vaq j; have val := zaa vaq; have van0 : ¬ n0 = V1.heap.size := (by omega); have vam0 : ¬ V1.heap.size = n0 := (by omega); have van1 : ¬ n1 = V1.heap.size := (by omega); have vam1 : ¬ V1.heap.size = n1 := (by omega); have vb0 : V2.cell? ⟨V1.heap.size + 1, 0, none⟩ = some (int i64 0) := (by rw [zab vbq]; rfl); have vb1 : V2.cell? ⟨V1.heap.size + 1, 1, none⟩ = some (int i64 0) := (by rw [zab vbq]; rfl); have vb2 : V2.cell? ⟨V1.heap.size + 1, 2, none⟩ = some (int i64 0) := (by rw [zab vbq]; rfl); have vb3 : V2.cell? ⟨V1.heap.size + 1, 3, none⟩ = some (int i64 0) := (by rw [zab vbq]; rfl); have vbf := fun j => zax vbq j; have vbl := zaa vbq; have vbn0 : ¬ n0 = V1.heap.size + 1 := (by omega); have vbm0 : ¬ V1.heap.size + 1 = n0 := (by omega); have vbn1 : ¬ n1 = V1.heap.size + 1 := (by omega); have vbm1 : ¬ V1.heap.size + 1 = n1 := (by omega); have vbn2 : ¬ V1.heap.size = V1.heap.size + 1 := (by omega); have vbm2 : ¬ V1.heap.size + 1 = V1.heap.size := (by omega); have VAQ := zac vaq; have VBQ := zac vbq; clear vaq; clear vbq; have hV12 : Below V1.heap.size V1 V2 := Below.trans (b := _) (by (repeat (first | exact Below.refl _ _ | assumption | apply Below.drew | apply zed))) (hbV2.mono (by first | exact Nat.le_refl _ | (simp; done) | (simp; omega))); have hX2 : Below X.heap.size X V2 := (ud HX1).trans (hV12.mono (ud HX1).size); have x2 := (hX2.cell (p := ⟨n0, 0, none⟩) l0).trans x0; have y2 := (hX2.cell (p := ⟨n1, 0, none⟩) l1).trans y0; have l02 := Nat.lt_of_lt_of_le l0 hX2.size; have l12 := Nat.lt_of_lt_of_le l1 hX2.size; have HX2 := zac hX2; clear hbV2 hX2 hV12)
  | (go_at_call 87; (with_reducible refine (ud (HKY _)).mono ?_); rintro e V2 ⟨rfl, hbV2⟩; have vaq : V2.heap[V1.heap.size]? = some (.cells #[int i64 0, int i64 0, int i64 0, int i64 0] 147 (0, 0)) := (hbV2.block _ (by simp)).trans (fresh1 _ _); have va0 : V2.cell? ⟨V1.heap.size, 0, none⟩ = some (int i64 0) := (by rw [zab vaq]; rfl); have va1 : V2.cell? ⟨V1.heap.size, 1, none⟩ = some (int i64 0) := (by rw [zab vaq]; rfl); have va2 : V2.cell? ⟨V1.heap.size, 2, none⟩ = some (int i64 0) := (by rw [zab vaq]; rfl); have va3 : V2.cell? ⟨V1.heap.size, 3, none⟩ = some (int i64 0) := (by rw [zab vaq]; rfl); have vaf := fun j => zax vaq j; have val := zaa vaq; have van0 : ¬ n0 = V1.heap.size := (by omega); have vam0 : ¬ V1.heap.size = n0 := (by omega); have van1 : ¬ n1 = V1.heap.size := (by omega); have vam1 : ¬ V1.heap.size = n1 := (by omega); have VAQ := zac vaq; clear vaq; have hV12 : Below V1.heap.size V1 V2 := Below.trans (b := _) (by (repeat (first | exact Below.refl _ _ | assumption | apply Below.drew | apply zed))) (hbV2.mono (by first | exact Nat.le_refl _ | (simp; done) | (simp; omega))); have hX2 : Below X.heap.size X V2 := (ud HX1).trans (hV12.mono (ud HX1).size); have x2 := (hX2.cell (p := ⟨n0, 0, none⟩) l0).trans x0; have y2 := (hX2.cell (p := ⟨n1, 0, none⟩) l1).trans y0; have l02 := Nat.lt_of_lt_of_le l0 hX2.size; have l12 := Nat.lt_of_lt_of_le l1 hX2.size; have HX2 := zac hX2; clear hbV2 hX2 hV12)
  | (go_at_call 87; (with_reducible refine (ud (HKY _)).mono ?_); rintro e V2 ⟨rfl, hbV2⟩; have hV12 : Below V1.heap.size V1 V2 := Below.trans (b := _) (by (repeat (first | exact Below.refl _ _ | assumption | apply Below.drew | apply zed))) (hbV2.mono (by first | exact Nat.le_refl _ | (simp; done) | (simp; omega))); have hX2 : Below X.heap.size X V2 := (ud HX1).trans (hV12.mono (ud HX1).size); have x2 := (hX2.cell (p := ⟨n0, 0, none⟩) l0).trans x0; have y2 := (hX2.cell (p := ⟨n1, 0, none⟩) l1).trans y0; have l02 := Nat.lt_of_lt_of_le l0 hX2.size; have l12 := Nat.lt_of_lt_of_le l1 hX2.size; have HX2 := zac hX2; clear hbV2 hX2 hV12))
 all_goals show K1 _ _
 all_goals (have hB := (ud HBW).trans ((ud HX2).mono (show n0 <= X.heap.size by omega)); have hs2 := (ud HX2).size; have hs1 := (ud HX1).size)
 all_goals try clear uan0
 all_goals try clear uan1
 all_goals try clear uan2
 all_goals try clear uan3
 all_goals try clear uan4
 all_goals try clear uam0
 all_goals try clear uam1
 all_goals try clear uam2
 all_goals try clear uam3
 all_goals try clear uam4
 all_goals try clear ubn0
 all_goals try clear ubn1
 all_goals try clear ubn2
 all_goals try clear ubn3
 all_goals try clear ubn4
 all_goals try clear ubm0
 all_goals try clear ubm1
 all_goals try clear ubm2
 all_goals try clear ubm3
 all_goals try clear ubm4
 all_goals try clear van0
 all_goals try clear van1
 all_goals try clear van2
 all_goals try clear van3
 all_goals try clear van4
 all_goals try clear vam0
 all_goals try clear vam1
 all_goals try clear vam2
 all_goals try clear vam3
 all_goals try clear vam4
 all_goals try clear vbn0
 all_goals try clear vbn1
 all_goals try clear vbn2
 all_goals try clear vbn3
 all_goals try clear vbn4
 all_goals try clear vbm0
 all_goals try clear vbm1
 all_goals try clear vbm2
 all_goals try clear vbm3
 all_goals try clear vbm4
 all_goals try clear uavn0
 all_goals try clear uavn1
 all_goals try clear uavn2
 all_goals try clear uavn3
 all_goals try clear uavn4
 all_goals try clear uavm0
 all_goals try clear uavm1
 all_goals try clear uavm2
 all_goals try clear uavm3
 all_goals try clear uavm4
 all_goals try clear ubvn0
 all_goals try clear ubvn1
 all_goals try clear ubvn2
 all_goals try clear ubvn3
 all_goals try clear ubvn4
 all_goals try clear ubvm0
 all_goals try clear ubvm1
 all_goals try clear ubvm2
 all_goals try clear ubvm3
 all_goals try clear ubvm4
 all_goals try clear n01
 all_goals (with_reducible refine ud HR2 _ _ _ ?_ ?_ ?_)
 all_goals (try have hlVAQ := zaa (ud VAQ))
 all_goals (try have hlVBQ := zaa (ud VBQ))
 all_goals (try have hlUAV := zaa (ud UAV))
 all_goals (try have hlUBV := zaa (ud UBV))
 all_goals (first
  | (with_reducible exact fresh2a _ _ _)
  | (with_reducible exact fresh2b _ _ _)
  | (with_reducible exact new_old _ _ _ _ _ _ _)
  | (with_reducible exact old_new (ud VAQ) _ _ _ _ _)
  | (with_reducible exact old_set (ud VAQ) _ _ _ _ _)
  | (with_reducible exact old_new (ud VBQ) _ _ _ _ _)
  | (with_reducible exact old_set (ud VBQ) _ _ _ _ _)
  | (with_reducible exact old_new (ud UAV) _ _ _ _ _)
  | (with_reducible exact old_set (ud UAV) _ _ _ _ _)
  | (with_reducible exact old_new (ud UBV) _ _ _ _ _)
  | (with_reducible exact old_set (ud UBV) _ _ _ _ _)
  | (with_reducible exact new_set (by omega) _ _ _ _ _)
  | (with_reducible exact two_fst (by omega) (ud VAQ) _ _ _ _ _ _ _ _)
  | (with_reducible exact two_snd (by omega) (ud VAQ) _ _ _ _ _ _ _ _)
  | (with_reducible exact two_fst (by omega) (ud VBQ) _ _ _ _ _ _ _ _)
  | (with_reducible exact two_snd (by omega) (ud VBQ) _ _ _ _ _ _ _ _)
  | (with_reducible exact two_fst (by omega) (ud UAV) _ _ _ _ _ _ _ _)
  | (with_reducible exact two_snd (by omega) (ud UAV) _ _ _ _ _ _ _ _)
  | (with_reducible exact two_fst (by omega) (ud UBV) _ _ _ _ _ _ _ _)
  | (with_reducible exact two_snd (by omega) (ud UBV) _ _ _ _ _ _ _ _)
  | ((with_reducible refine bel_aa hB ?_ _ _) <;> omega)
  | ((with_reducible refine bel_sa hB ?_ ?_ _ _ _ _ _) <;> omega)
  | ((with_reducible refine bel_as hB ?_ ?_ _ _ _ _ _) <;> omega)
  | ((with_reducible refine bel_ss hB ?_ ?_ _ _ _ _ _ _ _ _) <;> omega))
def freeB (QL : List (Tok × Lse)) (now : Int) (x : Tsk) : Bool := decide (x.rest <= now) && !leasedB QL x.key
set_option maxHeartbeats 1000000 in
theorem pick1_any {w : World} {b : Nat} {c : Cf} {tv : Value} {ep num : Int} {tb qb : Nat} {TL : List (Jk × Tsk)} {QL : List (Tok × Lse)} (h : zav w b c tv ep num tb qb TL QL) (x : Tsk) (now : Int) (hs : QL.length <= 100000)
  (Bn Bb : Nat) (l1 : Bn < w.heap.size) (l2 : Bb < w.heap.size) (c1 : w.cell? ⟨Bn, 0, none⟩ = some (int i64 now)) (c2 : w.cell? ⟨Bb, 0, none⟩ = some (.pointer (some ⟨b, 0, none⟩))) :
  Calls Tryz.prog 83 #[.agg #[.iface x.jt (.agg #[int i64 x.s.t, int i64 x.s.ser, int i64 x.s.win]), int i64 x.since, int i64 x.tries, int i64 x.rest], .pointer (some ⟨Bn, 0, none⟩), .pointer (some ⟨Bb, 0, none⟩)] w fun e w' => e = .returned (.bool (freeB QL now x)) /\ Below w.heap.size w w' := by
 have hbl := h.lt
 have hba : Below w.heap.size w (w.alloc (.cells #[.iface x.jt (.agg #[int i64 x.s.t, int i64 x.s.ser, int i64 x.s.win]), int i64 x.since, int i64 x.tries, int i64 x.rest] 162)) := (Below.refl _ _).alloc (Nat.le_refl _) _
 have HL := zac (leased_any (h.later hba) x hs)
 have HBA := zac hba
 unfold freeB
 obtain ⟨lv, hlv⟩ : ∃ lv, leasedB QL x.key = lv := ⟨_, rfl⟩
 rw [hlv] at HL ⊢
 clear h hlv
 by_cases hr : x.rest <= now
 ·rw [show (decide (x.rest <= now) && !lv) = !lv by simp [hr]]
  go_enter Tryz.func83, Tryz.ntmps83
  go_wp2_with fail
  refine (ud HL).mono ?_
  rintro e w1 ⟨rfl, hb1⟩
  go_wp2_with fail
  go_ret
  exact ⟨rfl, (ud HBA).trans (hb1.mono (ud HBA).size)⟩
 ·rw [show (decide (x.rest <= now) && !lv) = false by simp [hr]]
  have hr2 : decide (x.rest <= now) = false := by simpa using hr
  go_enter Tryz.func83, Tryz.ntmps83
  go_wp2_with fail
  go_ret
  exact ⟨rfl, ud HBA⟩
theorem pick1_enters : ∀ args w, (callFunc 83 args).run Tryz.prog w = .ok (.enter 83 args) w := enters_of Tryz.func83 (by kernel_rfl) rfl
theorem st_func (P : Program) (w : World) (a : Addr) (m : Mode) (fn : Fn) (first captured : Array Value) : (store a (.func fn first captured) m).run P w = stored P w a (.func fn first captured) m := _root_.Go.run_store P w a _ m rfl
attribute [local go_sem] st_func
structure OrdAt (W : World) (b : Nat) (now : Int) (tight : Bool) (q : Nat) : Prop where
 b0 : W.heap[q]? = some (.cells #[.pointer (some ⟨b, 0, none⟩)] 82 (0, 0))
 b1 : W.heap[q + 1]? = some (.cells #[int i64 now] 3 (0, 0))
 b2 : W.heap[q + 2]? = some (.cells #[.bool tight] 4 (0, 0))
 b3 : W.heap[q + 3]? = some (.cells #[.func (.func 135) #[] #[.pointer (some ⟨q, 0, none⟩), .pointer (some ⟨q + 1, 0, none⟩)]] 213 (0, 0))
theorem OrdAt.later {W W' : World} {b : Nat} {now : Int} {tight : Bool} {q : Nat} (h : OrdAt W b now tight q) (hb : Below W.heap.size W W') : OrdAt W' b now tight q :=
 ⟨(hb.block _ (zaa h.b0)).trans h.b0, (hb.block _ (zaa h.b1)).trans h.b1, (hb.block _ (zaa h.b2)).trans h.b2, (hb.block _ (zaa h.b3)).trans h.b3⟩
set_option maxHeartbeats 1000000 in
theorem order_any (b : Nat) (now : Int) (tight : Bool) (w : World) :
  Calls Tryz.prog 86 #[.pointer (some ⟨b, 0, none⟩), int i64 now, .bool tight] w fun e w' => e = .returned (.func (.func 136) #[] #[.pointer (some ⟨w.heap.size + 2, 0, none⟩), .pointer (some ⟨w.heap.size + 3, 0, none⟩)]) /\ OrdAt w' b now tight w.heap.size /\ Below w.heap.size w w' /\ w'.heap.size = w.heap.size + 4 := by
 obtain ⟨y0, y1, y2, hb3, yz⟩ := box3p0 w (.cells #[.pointer (some ⟨b, 0, none⟩)] 82) (.cells #[int i64 now] 3) (.cells #[.bool tight] 4)
 have y3 := zag (((w.alloc (.cells #[.pointer (some ⟨b, 0, none⟩)] 82)).alloc (.cells #[int i64 now] 3)).alloc (.cells #[.bool tight] 4)) (.cells #[.func (.func 135) #[] #[.pointer (some ⟨w.heap.size, 0, none⟩), .pointer (some ⟨w.heap.size + 1, 0, none⟩)]] 213)
 have hb4 := hb3.alloc (show w.heap.size <= _ by rw [yz]; omega) (.cells #[.func (.func 135) #[] #[.pointer (some ⟨w.heap.size, 0, none⟩), .pointer (some ⟨w.heap.size + 1, 0, none⟩)]] 213)
 have hz4 := zbm (((w.alloc (.cells #[.pointer (some ⟨b, 0, none⟩)] 82)).alloc (.cells #[int i64 now] 3)).alloc (.cells #[.bool tight] 4)) (.cells #[.func (.func 135) #[] #[.pointer (some ⟨w.heap.size, 0, none⟩), .pointer (some ⟨w.heap.size + 1, 0, none⟩)]] 213)
 rw [yz] at y3 hz4
 have z0 := (Below.heap_alloc (((w.alloc (.cells #[.pointer (some ⟨b, 0, none⟩)] 82)).alloc (.cells #[int i64 now] 3)).alloc (.cells #[.bool tight] 4)) (.cells #[.func (.func 135) #[] #[.pointer (some ⟨w.heap.size, 0, none⟩), .pointer (some ⟨w.heap.size + 1, 0, none⟩)]] 213) w.heap.size (by rw [yz]; omega)).trans y0
 have z1 := (Below.heap_alloc (((w.alloc (.cells #[.pointer (some ⟨b, 0, none⟩)] 82)).alloc (.cells #[int i64 now] 3)).alloc (.cells #[.bool tight] 4)) (.cells #[.func (.func 135) #[] #[.pointer (some ⟨w.heap.size, 0, none⟩), .pointer (some ⟨w.heap.size + 1, 0, none⟩)]] 213) (w.heap.size + 1) (by rw [yz]; omega)).trans y1
 have z2 := (Below.heap_alloc (((w.alloc (.cells #[.pointer (some ⟨b, 0, none⟩)] 82)).alloc (.cells #[int i64 now] 3)).alloc (.cells #[.bool tight] 4)) (.cells #[.func (.func 135) #[] #[.pointer (some ⟨w.heap.size, 0, none⟩), .pointer (some ⟨w.heap.size + 1, 0, none⟩)]] 213) (w.heap.size + 2) (by rw [yz]; omega)).trans y2
 have HZ := zac (And.intro z0 (And.intro z1 (And.intro z2 (And.intro y3 (And.intro hb4 hz4)))))
 clear y0 y1 y2 hb3 yz y3 hb4 hz4 z0 z1 z2
 go_enter Tryz.func86, Tryz.ntmps86
 go_wp2_with fail
 go_ret
 obtain ⟨z0, z1, z2, y3, hb4, hz4⟩ := ud HZ
 exact ⟨rfl, ⟨z0, z1, z2, y3⟩, hb4, hz4⟩
theorem order_enters : ∀ args w, (callFunc 136 args).run Tryz.prog w = .ok (.enter 136 args) w := enters_of Tryz.func136 (by kernel_rfl) rfl
end Go.Proofs.YtpbimdkclnekeaaGreat
