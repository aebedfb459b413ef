import Derived.Test.YtpbimdkclnekeaaGreatTMlz4
import Derived.Test.YtpbimdkclnekeaaGreatTMlz6
import Derived.Test.YtpbimdkclnekeaaGreatTPck2
import Derived.Test.YtpbimdkclnekeaaGreatTRefO
import Derived.Test.YtpbimdkclnekeaaGreatTZet7
import Derived.Test.YtpbimdkclnekeaaGreatTJn1
import Derived.Test.YtpbimdkclnekeaaGreatTFits0
import Derived.Test.YtpbimdkclnekeaaGreatTMlz5
import Derived.Test.YtpbimdkclnekeaaGreatTShp0
import Derived.Test.YtpbimdkclnekeaaGreatTConf3

namespace Go.Proofs.YtpbimdkclnekeaaGreat
open Value (int)
open IntKind (i64)
open Go.RowKit Go.Maps Go.Shelf
open Go.ChangeMaps (setBlock)
set_option linter.unusedVariables false
set_option maxHeartbeats 1000000 in
theorem isSer_no (n : Int) (w : World) (h : n < 0 \/ 4 <= n) : Calls Tryz.prog 113 #[int i64 n] w fun e w' => e = .returned (.bool false) /\ w' = w := by
 by_cases h1 : n < 0
 ·have h1' : decide (0 <= n) = false := by simp; omega
  clear h
  go_enter Tryz.func113, Tryz.ntmps113
  go_wp2_with fail
  go_ret
  exact ⟨rfl, rfl⟩
 ·have h2 : 0 <= n := by omega
  have h3 : ¬ n < 4 := by omega
  clear h
  go_enter Tryz.func113, Tryz.ntmps113
  go_wp2_with fail
  go_ret
  exact ⟨rfl, rfl⟩
set_option maxRecDepth 20000 in
set_option maxHeartbeats 4000000 in
theorem ming_arg {w : World} {x : Nat} (ser tm val : Int) (hser : ser < 0 \/ 4 <= ser) :
  Calls Tryz.prog 59 #[.pointer (some ⟨x, 0, none⟩), int i64 ser, int i64 tm, .int .i32 val] w fun e w' => e = .returned (int i64 2) /\ Below w.heap.size w w' := by
 have HIS := fun W => zab (isSer_no ser W hser)
 clear hser
 go_enter Tryz.func59, Tryz.ntmps59
 go_wp2_with (first | (go_at_call 113; refine (ud (HIS _)).mono ?_; rintro e W9 ⟨rfl, h9⟩; have h9' := h9.symm; subst h9') | fail)
 go_ret
 exact ⟨rfl, Below.refl _ _⟩
set_option maxRecDepth 20000 in
set_option maxHeartbeats 4000000 in
theorem ming_time {w : World} {i : Ids} {c : Cf} {ep : Int} {m : MS} (h : zbb w i c ep m) (ser tm val : Int) (hser : 0 <= ser /\ ser < 4) (htm : tm < 0 \/ m.now < tm) :
  Calls Tryz.prog 59 #[.pointer (some ⟨i.x, 0, none⟩), int i64 ser, int i64 tm, .int .i32 val] w fun e w' => e = .returned (int i64 5) /\ Below w.heap.size w w' := by
 obtain ⟨-, -, -, -, -, -, -, -, c8, -, -⟩ := h.cells
 have hxl := h.lt
 have HIS := fun W => zab (isSer_any ser W hser)
 clear h hser
 by_cases h1 : tm < 0
 ·have h1' : decide (tm < 0) = true := by simpa using h1
  clear htm
  go_enter Tryz.func59, Tryz.ntmps59
  go_wp2_with (first | (go_at_call 113; refine (ud (HIS _)).mono ?_; rintro e W9 ⟨rfl, h9⟩; have h9' := h9.symm; subst h9') | fail)
  go_ret
  exact ⟨rfl, Below.refl _ _⟩
 ·have h1' : decide (tm < 0) = false := by simpa using h1
  have h2 : m.now < tm := by omega
  have h2' : decide (m.now < tm) = true := by simpa using h2
  clear htm
  go_enter Tryz.func59, Tryz.ntmps59
  go_wp2_with (first | (go_at_call 113; refine (ud (HIS _)).mono ?_; rintro e W9 ⟨rfl, h9⟩; have h9' := h9.symm; subst h9') | fail)
  go_ret
  exact ⟨rfl, Below.refl _ _⟩
set_option maxRecDepth 20000 in
set_option maxHeartbeats 4000000 in
theorem ming_late {w : World} {i : Ids} {c : Cf} {ep : Int} {m : MS} (h : zbb w i c ep m) (hc : c.ok) (ser tm val : Int) (hser : 0 <= ser /\ ser < 4) (htm : 0 <= tm /\ tm <= m.now) (hla : tm < m.now - c.la) (hnow : m.now <= 100000) :
  Calls Tryz.prog 59 #[.pointer (some ⟨i.x, 0, none⟩), int i64 ser, int i64 tm, .int .i32 val] w fun e w' => e = .returned (int i64 3) /\ Below w.heap.size w w' := by
 obtain ⟨a, cap, htv, hts⟩ := h.ts
 obtain ⟨c0, c1, c2, c3, c4, c5, c6, c7, c8, c9, -⟩ := h.cells
 rw [htv] at c6
 have hxl := h.lt
 obtain ⟨hl1, hl2⟩ := hc.la
 have HLG := fun W => zab (llag_any c a cap W)
 have HIS := fun W => zab (isSer_any ser W hser)
 have h1' : decide (tm < 0) = false := by simp; omega
 have h2' : decide (m.now < tm) = false := by simp; omega
 have h3' : decide (tm < m.now - c.la) = true := by simpa using hla
 obtain ⟨ht1, ht2⟩ := htm
 clear h hts
 go_enter Tryz.func59, Tryz.ntmps59
 go_wp2_with (first | (go_at_call 113; refine (ud (HIS _)).mono ?_; rintro e W9 ⟨rfl, h9⟩; have h9' := h9.symm; subst h9'))
 have hnew : Nonempty (zaf w.heap.size w) := zaf.some _ _
 have hlcw := fun (u : zaf w.heap.size w) b o h => u.cell b o h
 refine zad w.heap.size (by kernel_rfl) (by kernel_rfl) ?_
 repeat (go_big_quiet_step (first
  | (go_at_call 114; exact Calls.later (Nat.le_refl _) (ud (HLG _)))))
 refine wpQuiet_nil ?_
 rintro ⟨w1, hbw1⟩
 dsimp only
 clear hlcw hnew
 go_wp2_with fail
 go_ret
 exact ⟨rfl, hbw1⟩
set_option maxRecDepth 20000 in
set_option maxHeartbeats 8000000 in
theorem mquery_bad {w : World} {i : Ids} {c : Cf} {ep : Int} {m : MS} (h : zbb w i c ep m) (hc : c.ok) (t ser win : Int) (hb : t < -1 \/ c.n <= t \/ ser < 0 \/ 4 <= ser \/ win < 0 \/ 100000 < win) :
  Calls Tryz.prog 60 #[.pointer (some ⟨i.x, 0, none⟩), int i64 t, int i64 ser, int i64 win] w fun e w' => e = .returned (.tuple #[.agg #[int i64 0, int i64 0, .int .i32 0, .int .i32 0], int i64 2]) /\ Below w.heap.size w w' := by
 obtain ⟨a, cap, htv, hts⟩ := h.ts
 have hxl := h.lt
 have hb0 : Below w.heap.size w (w.alloc (.cells #[int i64 0, int i64 0, .int .i32 0, .int .i32 0] 114)) := (Below.refl _ _).alloc (Nat.le_refl _) _
 obtain ⟨c0, c1, c2, c3, c4, c5, c6, -, c8, c9, -⟩ := (h.later hb0).cells
 rw [htv] at c6
 have HB0 := zab hb0
 have HL0 := zab (zap w (.cells #[int i64 0, int i64 0, .int .i32 0, .int .i32 0] 114))
 have hq0 : w.heap.size < (w.alloc (.cells #[int i64 0, int i64 0, .int .i32 0, .int .i32 0] 114)).heap.size := by rw [zbd]; omega
 have hxz : i.x < (w.alloc (.cells #[int i64 0, int i64 0, .int .i32 0, .int .i32 0] 114)).heap.size := by rw [zbd]; omega
 have HH := zab (lhas_any c hc a cap t (w.alloc (.cells #[int i64 0, int i64 0, .int .i32 0, .int .i32 0] 114)))
 have hn4 := hc.n4
 clear hb0 h hts
 by_cases p1 : t < -1 \/ c.n <= t
 ·rw [show inB t (-1) ((c.n : Int) - 1) = false from by rw [inB_false]; omega] at HH
  clear p1 hb
  go_enter Tryz.func60, Tryz.ntmps60
  go_wp2_with (first | (go_at_call 117; refine (ud HH).mono ?_; rintro e w1 ⟨rfl, hb1⟩; have y0 : w1.cell? ⟨w.heap.size, 0, none⟩ = some (int i64 0) := (by rw [zac ((hb1.block w.heap.size hq0).trans (ud HL0))]; rfl); have y1 : w1.cell? ⟨w.heap.size, 1, none⟩ = some (int i64 0) := (by rw [zac ((hb1.block w.heap.size hq0).trans (ud HL0))]; rfl); have y2 : w1.cell? ⟨w.heap.size, 2, none⟩ = some (.int .i32 0) := (by rw [zac ((hb1.block w.heap.size hq0).trans (ud HL0))]; rfl); have y3 : w1.cell? ⟨w.heap.size, 3, none⟩ = some (.int .i32 0) := (by rw [zac ((hb1.block w.heap.size hq0).trans (ud HL0))]; rfl); have yf := fun j => zaz ((hb1.block w.heap.size hq0).trans (ud HL0)) j; have hq1 : w.heap.size < w1.heap.size := Nat.lt_of_lt_of_le hq0 hb1.size; have HB1 := zab hb1; clear hb1) | fail)
  have e2 := ((ud HB1).block w.heap.size hq0).trans (ud HL0)
  have hf := set4c e2 (int i64 0) (int i64 0) (.int .i32 0) (.int .i32 0)
  refine bodyPost_ret (v := .tuple #[.agg #[int i64 0, int i64 0, .int .i32 0, .int .i32 0], int i64 2]) (zak Tryz.results60 _ _ w.heap.size _ _ _ _ _ rfl rfl hf Tryz.underlying114 rfl (by kernel_rfl)) rfl ?_
  exact ⟨rfl, (ud HB0).trans (((ud HB1).mono (ud HB0).size).trans (below4 (Nat.le_refl _) _ _ _ _))⟩
 rw [show inB t (-1) ((c.n : Int) - 1) = true from by rw [zdr]; omega] at HH
 by_cases p2 : ser < 0 \/ 4 <= ser
 ·have HS := fun W => zab (isSer_no ser W p2)
  clear p1 p2 hb
  go_enter Tryz.func60, Tryz.ntmps60
  go_wp2_with (first | (go_at_call 117; refine (ud HH).mono ?_; rintro e w1 ⟨rfl, hb1⟩; have y0 : w1.cell? ⟨w.heap.size, 0, none⟩ = some (int i64 0) := (by rw [zac ((hb1.block w.heap.size hq0).trans (ud HL0))]; rfl); have y1 : w1.cell? ⟨w.heap.size, 1, none⟩ = some (int i64 0) := (by rw [zac ((hb1.block w.heap.size hq0).trans (ud HL0))]; rfl); have y2 : w1.cell? ⟨w.heap.size, 2, none⟩ = some (.int .i32 0) := (by rw [zac ((hb1.block w.heap.size hq0).trans (ud HL0))]; rfl); have y3 : w1.cell? ⟨w.heap.size, 3, none⟩ = some (.int .i32 0) := (by rw [zac ((hb1.block w.heap.size hq0).trans (ud HL0))]; rfl); have yf := fun j => zaz ((hb1.block w.heap.size hq0).trans (ud HL0)) j; have hq1 : w.heap.size < w1.heap.size := Nat.lt_of_lt_of_le hq0 hb1.size; have HB1 := zab hb1; clear hb1) | (go_at_call 113; refine (ud (HS _)).mono ?_; rintro e W9 ⟨rfl, h9⟩; have h9' := h9.symm; subst h9') | fail)
  have e2 := ((ud HB1).block w.heap.size hq0).trans (ud HL0)
  have hf := set4c e2 (int i64 0) (int i64 0) (.int .i32 0) (.int .i32 0)
  refine bodyPost_ret (v := .tuple #[.agg #[int i64 0, int i64 0, .int .i32 0, .int .i32 0], int i64 2]) (zak Tryz.results60 _ _ w.heap.size _ _ _ _ _ rfl rfl hf Tryz.underlying114 rfl (by kernel_rfl)) rfl ?_
  exact ⟨rfl, (ud HB0).trans (((ud HB1).mono (ud HB0).size).trans (below4 (Nat.le_refl _) _ _ _ _))⟩
 have HS := fun W => zab (isSer_any ser W (by omega))
 by_cases p3 : win < 0
 ·have p3' : decide (win < 0) = true := by simpa using p3
  clear p1 p2 hb
  go_enter Tryz.func60, Tryz.ntmps60
  go_wp2_with (first | (go_at_call 117; refine (ud HH).mono ?_; rintro e w1 ⟨rfl, hb1⟩; have y0 : w1.cell? ⟨w.heap.size, 0, none⟩ = some (int i64 0) := (by rw [zac ((hb1.block w.heap.size hq0).trans (ud HL0))]; rfl); have y1 : w1.cell? ⟨w.heap.size, 1, none⟩ = some (int i64 0) := (by rw [zac ((hb1.block w.heap.size hq0).trans (ud HL0))]; rfl); have y2 : w1.cell? ⟨w.heap.size, 2, none⟩ = some (.int .i32 0) := (by rw [zac ((hb1.block w.heap.size hq0).trans (ud HL0))]; rfl); have y3 : w1.cell? ⟨w.heap.size, 3, none⟩ = some (.int .i32 0) := (by rw [zac ((hb1.block w.heap.size hq0).trans (ud HL0))]; rfl); have yf := fun j => zaz ((hb1.block w.heap.size hq0).trans (ud HL0)) j; have hq1 : w.heap.size < w1.heap.size := Nat.lt_of_lt_of_le hq0 hb1.size; have HB1 := zab hb1; clear hb1) | (go_at_call 113; refine (ud (HS _)).mono ?_; rintro e W9 ⟨rfl, h9⟩; have h9' := h9.symm; subst h9') | fail)
  have e2 := ((ud HB1).block w.heap.size hq0).trans (ud HL0)
  have hf := set4c e2 (int i64 0) (int i64 0) (.int .i32 0) (.int .i32 0)
  refine bodyPost_ret (v := .tuple #[.agg #[int i64 0, int i64 0, .int .i32 0, .int .i32 0], int i64 2]) (zak Tryz.results60 _ _ w.heap.size _ _ _ _ _ rfl rfl hf Tryz.underlying114 rfl (by kernel_rfl)) rfl ?_
  exact ⟨rfl, (ud HB0).trans (((ud HB1).mono (ud HB0).size).trans (below4 (Nat.le_refl _) _ _ _ _))⟩
 have p3' : decide (win < 0) = false := by simpa using p3
 have p4 : 100000 < win := by omega
 have p4' : decide (100000 < win) = true := by simpa using p4
 clear p1 p2 hb
 go_enter Tryz.func60, Tryz.ntmps60
 go_wp2_with (first | (go_at_call 117; refine (ud HH).mono ?_; rintro e w1 ⟨rfl, hb1⟩; have y0 : w1.cell? ⟨w.heap.size, 0, none⟩ = some (int i64 0) := (by rw [zac ((hb1.block w.heap.size hq0).trans (ud HL0))]; rfl); have y1 : w1.cell? ⟨w.heap.size, 1, none⟩ = some (int i64 0) := (by rw [zac ((hb1.block w.heap.size hq0).trans (ud HL0))]; rfl); have y2 : w1.cell? ⟨w.heap.size, 2, none⟩ = some (.int .i32 0) := (by rw [zac ((hb1.block w.heap.size hq0).trans (ud HL0))]; rfl); have y3 : w1.cell? ⟨w.heap.size, 3, none⟩ = some (.int .i32 0) := (by rw [zac ((hb1.block w.heap.size hq0).trans (ud HL0))]; rfl); have yf := fun j => zaz ((hb1.block w.heap.size hq0).trans (ud HL0)) j; have hq1 : w.heap.size < w1.heap.size := Nat.lt_of_lt_of_le hq0 hb1.size; have HB1 := zab hb1; clear hb1) | (go_at_call 113; refine (ud (HS _)).mono ?_; rintro e W9 ⟨rfl, h9⟩; have h9' := h9.symm; subst h9') | fail)
 have e2 := ((ud HB1).block w.heap.size hq0).trans (ud HL0)
 have hf := set4c e2 (int i64 0) (int i64 0) (.int .i32 0) (.int .i32 0)
 refine bodyPost_ret (v := .tuple #[.agg #[int i64 0, int i64 0, .int .i32 0, .int .i32 0], int i64 2]) (zak Tryz.results60 _ _ w.heap.size _ _ _ _ _ rfl rfl hf Tryz.underlying114 rfl (by kernel_rfl)) rfl ?_
 exact ⟨rfl, (ud HB0).trans (((ud HB1).mono (ud HB0).size).trans (below4 (Nat.le_refl _) _ _ _ _))⟩
theorem ming_any {w : World} {i : Ids} {c : Cf} {ep : Int} {m : MS} {r : RM} (h : zbb w i c ep m) (hs : zed c ep m r) (ser tm val : Int) (hval : -2147483648 <= val /\ val <= 2147483647) :
  Calls Tryz.prog 59 #[.pointer (some ⟨i.x, 0, none⟩), int i64 ser, int i64 tm, .int .i32 val] w fun e w' => e = .returned (int i64 (zcq c m ser tm val).2) /\ zbb w' i c ep (zcq c m ser tm val).1 /\ zan (zcz i) w w' := by
 have hm := hs.sok.ok
 have hub := hs.ubound
 by_cases p1 : ser < 0 \/ 4 <= ser
 ·rw [show zcq c m ser tm val = (m, 2) from by unfold zcq; rw [if_pos p1]]
  exact (ming_arg ser tm val p1).mono fun e w' ⟨e1, e2⟩ => ⟨e1, h.later e2, zan.of_below e2⟩
 by_cases p2 : tm < 0 \/ m.now < tm
 ·rw [show zcq c m ser tm val = (m, 5) from by unfold zcq; rw [if_neg p1, if_pos p2]]
  exact (ming_time h ser tm val (by omega) p2).mono fun e w' ⟨e1, e2⟩ => ⟨e1, h.later e2, zan.of_below e2⟩
 by_cases p3 : tm < m.now - c.la
 ·rw [show zcq c m ser tm val = (m, 3) from by unfold zcq; rw [if_neg p1, if_neg p2, if_pos p3]]
  exact (ming_late h hs.ok ser tm val (by omega) (by omega) p3 hm.now.2).mono fun e w' ⟨e1, e2⟩ => ⟨e1, h.later e2, zan.of_below e2⟩
 have hng : ∀ k : Nat, k < c.n -> zbm m.Gl (zdm c ser tm k) = none := fun k hk => zcb.2 (by
  have := open_not_gone hs.ok hm (x := ⟨ser, tm, val⟩) (t := (k : Int)) (by show m.now - c.la <= tm; omega) (by omega) (by omega)
  exact this)
 by_cases p4 : c.qu < zby m.L + (1 + 2 * zeq c m.L ⟨ser, tm, val⟩ c.n)
 ·rw [show zcq c m ser tm val = (m, 4) from by unfold zcq; rw [if_neg p1, if_neg p2, if_neg p3, if_pos p4]]
  exact (ming_full h hs.ok ser tm val (by omega) (by omega) (by omega) hm.now.2 hval (by omega) hm.seg.st hng p4).mono fun e w' ⟨e1, e2⟩ => ⟨e1, h.later e2, zan.of_below e2⟩
 ·rw [show zcq c m ser tm val = ({ m with L := addL c m.L ⟨ser, tm, val⟩ }, 0) from by unfold zcq; rw [if_neg p1, if_neg p2, if_neg p3, if_neg p4]]
  refine (ming_ok h hs.ok ser tm val (by omega) (by omega) (by omega) hm.now.2 hval (by omega) hm.seg.st hng (by omega) (by have := hm.seg.len400 hs.ok; omega) (fun p hp ht => ?_)).mono fun e w' ⟨e1, e2, e3⟩ => ⟨e1, e2, e3.mono (fun k _ e => .inr (.inl (.inr (.inr (.inl e)))))⟩
  obtain ⟨q1, q2, q3, q4⟩ := hm.seg.raw p hp ht
  have q5 := hm.seg.cnt hs.ok p hp ht
  unfold Cl.small
  omega
end Go.Proofs.YtpbimdkclnekeaaGreat

namespace Go.Proofs.YtpbimdkclnekeaaGreat
open Go.RowKit Go.Maps Go.Shelf
set_option linter.unusedVariables false
section
variable {c : Cf} {ep : Int} {m : MS} {r : RM}
theorem PComp.more (h : PComp c m) {T' : List (Jk × Tsk)} {Q' : List (Tok × Lse)} {n' : Int} (hk : ∀ k, k ∈ zaj m.TL -> k ∈ zaj T') : PComp c { m with num := n', TL := T', QL := Q' } := by
 obtain ⟨Bs, hB, h1, h2⟩ := h
 exact ⟨Bs, hB, fun s hs hr => hk _ (h1 s hs hr), fun s hs hr => hk _ (h2 s hs hr)⟩
theorem zed.fail (h : zed c ep m r) {e n : Int} {g : Lse} (hg : zbm m.QL ⟨e, n⟩ = some g) {x : Tsk} (hx : zbm m.TL g.job = some x) : (r.fail e n).2 = 0 /\ zed c ep { m with TL := zer m.TL g.job (x.failed m.now), QL := zcj m.QL ⟨e, n⟩ } (r.fail e n).1 := by
 obtain ⟨h1, h2, h3⟩ := fail_same h.sok.ok h.tsk h.tie.now h.slot e n hg hx
 refine ⟨h1, ?_⟩
 have ha : Act1 c ep m r.nums { m with TL := zer m.TL g.job (x.failed m.now), QL := zcj m.QL ⟨e, n⟩ } r.nums := .failed m r.nums ⟨e, n⟩ g x hg hx
 rw [h2]
 refine ⟨h.ok, h.fits, ha.ok h.ok h.fits h.sok, ⟨h.tie.hc, h.tie.now, h.tie.gone, h.tie.pub, h.tie.inv.act h.ok h.fits h.sok (by have := h.len; omega) ha⟩, h3, fun q hq => h.slot q (zbh.1 hq).1, h.picks, h.epo, h.ghas, h.ng, h.np, h.full, h.comp.more (fun k hk => zbw.2 (.inl hk))⟩
end
theorem foldl_eq {α β : Type} {f g : β -> α -> β} : ∀ (l : List α) (b : β), (∀ b a, a ∈ l -> f b a = g b a) -> l.foldl f b = l.foldl g b
 | [], b, _ => rfl
 | a :: l, b, h => by
  rw [List.foldl_cons, List.foldl_cons, h b a (by simp)]
  exact foldl_eq l _ (fun b x hx => h b x (by simp [hx]))
theorem fold_pick_filter (kind : Int) (s : Sg) (P : Tk -> Bool) : ∀ (l : List Tk) (t : Tk), (∀ x ∈ l, P x = false -> ¬ (x.kind = kind /\ x.s = s)) -> (l.filter P).foldl (zdd kind s) t = l.foldl (zdd kind s) t
 | [], t, _ => rfl
 | x :: l, t, h => by
  have ih := fun t => fold_pick_filter kind s P l t (fun y hy => h y (by simp [hy]))
  rw [List.filter_cons, List.foldl_cons]
  cases hP : P x with
  | true => rw [if_pos rfl, List.foldl_cons]; exact ih _
  | false =>
   rw [if_neg (by decide), ih]
   have e : zdd kind s t x = t := by unfold zdd; rw [if_neg (h x (by simp) hP)]
   rw [e]
theorem settled_drop (r : RM) (kd : Int) (s : Sg) (hnr : readyK r kd s (zax r.c r.nums) = false) : { r with tasks := r.tasks.filter (fun t => !decide (t.kind = kd /\ t.s = s)) }.settled.tasks = r.settled.tasks := by
 show zcy { r with tasks := r.tasks.filter (fun t => !decide (t.kind = kd /\ t.s = s)) } (zax r.c r.nums) (zax r.c r.nums).length = zcy r (zax r.c r.nums) (zax r.c r.nums).length
 unfold zcy
 refine foldl_eq _ _ (fun out s' hs' => ?_)
 have hst : ∀ (kind : Int) (o : List Tk), zfm { r with tasks := r.tasks.filter (fun t => !decide (t.kind = kd /\ t.s = s)) } (zax r.c r.nums) kind o s' = zfm r (zax r.c r.nums) kind o s' := fun kind o => by
  unfold zfm
  have e1 : readyK { r with tasks := r.tasks.filter (fun t => !decide (t.kind = kd /\ t.s = s)) } kind s' (zax r.c r.nums) = readyK r kind s' (zax r.c r.nums) := rfl
  rw [e1]
  by_cases hr : readyK r kind s' (zax r.c r.nums) = true
  ·rw [if_pos hr, if_pos hr]
   have e2 : zea { r with tasks := r.tasks.filter (fun t => !decide (t.kind = kd /\ t.s = s)) } kind s' = zea r kind s' := by
    unfold zea
    refine fold_pick_filter kind s' _ r.tasks _ (fun x hx hP => ?_)
    simp only [Bool.not_eq_false', decide_eq_true_eq] at hP
    rintro ⟨h1, h2⟩
    rw [<- h1, <- h2, hP.1, hP.2, hnr] at hr
    cases hr
   rw [e2]
  ·rw [if_neg hr, if_neg hr]
 rw [hst, hst]
section
variable {c : Cf} {ep : Int} {m : MS} {r : RM}
theorem zcf.dropped {l : List Tk} (hm : MOk c ep m) (h : zcf m.TL m.QL l) {t : Tok} {g : Lse} (hg : zbm m.QL t = some g) {x : Tsk} (hx : zbm m.TL g.job = some x) : zcf (zcj m.TL g.job) (zcj m.QL t) (l.filter (fun k => !decide (k.kind = x.kd /\ k.s = x.s))) := by
 obtain ⟨ts, hpm, hs, rfl⟩ := h
 have hkx : g.job = x.key := (hm.tasks _ (zat hx)).key
 have hgm := zat hg
 have hkey : ∀ z : Tsk, (z.kd = x.kd /\ z.s = x.s) ↔ z.key = x.key := fun z => by
  unfold Tsk.key
  constructor
  ·rintro ⟨a, b⟩; rw [a, b]
  ·intro e; injection e with a b; exact ⟨a, b⟩
 refine ⟨ts.filter (fun z => !decide (z.kd = x.kd /\ z.s = x.s)), ?_, hs.filter _, ?_⟩
 ·have e : (zcj m.TL g.job).map (·.2) = (m.TL.map (·.2)).filter (fun z => !decide (z.kd = x.kd /\ z.s = x.s)) := by
   unfold zcj
   rw [List.filter_map]
   refine congrArg (List.map _) (List.filter_congr (fun p hp => ?_))
   have hpk := (hm.tasks p hp).key
   dsimp only [Function.comp]
   rw [hkx]
   by_cases e : p.1 = x.key
   ·have e2 : p.2.kd = x.kd /\ p.2.s = x.s := (hkey p.2).2 (by rw [<- hpk]; exact e)
    simp [e, e2]
   ·have e2 : ¬ (p.2.kd = x.kd /\ p.2.s = x.s) := fun h => e (by rw [hpk]; exact (hkey p.2).1 h)
    simp only [e, e2, decide_false, Bool.not_false, ne_eq, not_false_eq_true, decide_true]
  rw [e]
  exact hpm.filter _
 ·rw [List.filter_map]
  have e1 : ((fun k : Tk => !decide (k.kind = x.kd /\ k.s = x.s)) ∘ tkOf m.QL) = fun z => !decide (z.kd = x.kd /\ z.s = x.s) := rfl
  rw [e1]
  refine List.map_congr_left (fun z hz => ?_)
  have hne : z.key ≠ x.key := fun e => by
   have := (List.mem_filter.1 hz).2
   rw [decide_eq_true ((hkey z).2 e)] at this
   cases this
  refine tkOf_congr (jobO_congr hm.jobs (jobs_del hm.jobs t) (fun q hk => ?_))
  rw [zbh]
  constructor
  ·refine fun hq => ⟨hq, fun e => hne ?_⟩
   have h4 : zbm m.QL q.1 = some q.2 := zcg hm.nq hq
   rw [e, hg] at h4
   injection h4 with h4
   rw [<- hk, <- h4, hkx]
  ·exact fun hq => hq.1
theorem zed.roll (h : zed c ep m r) {e n : Int} {g : Lse} {s : Sg} {since tries rest : Int} {k : Nat} (hg : zbm m.QL ⟨e, n⟩ = some g) (hx : zbm m.TL g.job = some ⟨true, s, since, tries, rest⟩) (hk : s.t = k) {TL' : List (Jk × Tsk)}
  (hp : zev c { m with L := putL m.L s ⟨3, zdn (standL c m.L s.ser s.win k)⟩, Gl := m.Gl, TL := zcj m.TL g.job, QL := zcj m.QL ⟨e, n⟩ } TL') :
  (r.commit e n).2 = 0 /\ zed c ep { m with L := putL m.L s ⟨3, zdn (standL c m.L s.ser s.win k)⟩, Gl := m.Gl, TL := TL', QL := zcj m.QL ⟨e, n⟩ } (r.commit e n).1 := by
 obtain ⟨j, h1, h2⟩ := lease_same h.sok.ok h.tsk h.slot e n hg hx
 have hE : r.commit e n = ({ r with pub := r.pub ++ [s] }.settled, 0) := by
  unfold RM.commit
  rw [h1]
  simp only [h2, Option.getD_some]
  unfold RM.done
  rw [if_pos (show (tkOf m.QL ⟨true, s, since, tries, rest⟩).kind = 1 from rfl)]
  rfl
 rw [hE]
 refine ⟨rfl, ?_⟩
 have hm := h.sok.ok
 have ho := hm.tasks _ (zat hx)
 have hmem : s ∈ zam m.L := ho.mem
 have hst : (stL m.L s).st = 2 := ho.roll rfl
 have hm1 := (hm.rolled hg hx rfl (zdn (standL c m.L s.ser s.win k))).1
 have hi1 := h.tie.inv.rolled h.ok h.fits hm (by have := h.len; omega) hx hk (zcj m.QL ⟨e, n⟩)
 have hpubn : ¬ s ∈ r.pub := fun hs => by
  rcases h.inPub.1 hs with ⟨v, hv, h3⟩ | ⟨-, h3⟩
  ·rw [mem_one hm.seg.nl (zbf hmem) hv] at hst; omega
  ·exact hm.seg.disj _ (zbf hmem) h3
 have hpub : ∀ s', memB s' (r.pub ++ [s]) = true ↔ Pub (putL m.L s ⟨3, zdn (standL c m.L s.ser s.win k)⟩) s' \/ (0 <= s'.t /\ s' ∈ zaj m.Gl) := fun s' => by
  have : memB s' (r.pub ++ [s]) = true ↔ s' ∈ r.pub \/ s' = s := by unfold memB; simp
  rw [this, h.inPub]
  constructor
  ·rintro ((⟨v, hv, h3⟩ | h3) | rfl)
   ·by_cases e : s' = s
    ·rw [e]; exact .inl ⟨_, putL_new, rfl⟩
    ·exact .inl ⟨v, putL_old hv e, h3⟩
   ·exact .inr h3
   ·exact .inl ⟨_, putL_new, rfl⟩
  ·rintro (⟨v, hv, h3⟩ | h3)
   ·rcases zde hv with e | ⟨hv, -⟩
    ·injection e with e1 e2; exact .inr e1
    ·exact .inl (.inl ⟨v, hv, h3⟩)
   ·exact .inl (.inr h3)
 have ht1 : TieR c { m with L := putL m.L s ⟨3, zdn (standL c m.L s.ser s.win k)⟩, Gl := m.Gl, TL := zcj m.TL g.job, QL := zcj m.QL ⟨e, n⟩ } { r with pub := r.pub ++ [s], tasks := r.tasks.filter (fun t => !decide (t.kind = (1 : Int) /\ t.s = s)) } := ⟨h.tie.hc, h.tie.now, h.tie.gone, hpub, hi1⟩
 have hk1 : zcf (zcj m.TL g.job) (zcj m.QL ⟨e, n⟩) (r.tasks.filter (fun t => !decide (t.kind = (1 : Int) /\ t.s = s))) := h.tsk.dropped hm hg hx
 have hts := settle_all h.ok h.fits hm1 ht1 hk1 hp
 rw [show ({ r with pub := r.pub ++ [s], tasks := r.tasks.filter (fun t => !decide (t.kind = (1 : Int) /\ t.s = s)) } : RM).settled.tasks = ({ r with pub := r.pub ++ [s] } : RM).settled.tasks from settled_drop { r with pub := r.pub ++ [s] } 1 s (by
  unfold readyK
  rw [if_pos rfl]
  unfold zdz headRoll
  have : memB s ({ r with pub := r.pub ++ [s] } : RM).pub = true := memB_true (by simp)
  rw [this]; simp)] at hts
 have ha : Act1 c ep m r.nums { m with L := putL m.L s ⟨3, zdn (standL c m.L s.ser s.win k)⟩, Gl := m.Gl, TL := TL', QL := zcj m.QL ⟨e, n⟩ } r.nums := .rolled m r.nums ⟨e, n⟩ g s since tries rest k TL' hg hx hk hp
 refine ⟨h.ok, h.fits, ha.ok h.ok h.fits h.sok, ⟨h.tie.hc, h.tie.now, h.tie.gone, hpub, h.tie.inv.act h.ok h.fits h.sok (by have := h.len; omega) ha⟩, hts, fun q hq => h.slot q (zbh.1 hq).1, h.picks, h.epo, h.ghas, h.ng, ?_, h.full, PComp.of hp⟩
 show (r.pub ++ [s]).Nodup
 rw [List.nodup_append]
 exact ⟨h.np, by simp, fun a hma b hb e => by simp at hb; subst hb; subst e; exact hpubn hma⟩
theorem zed.reclaim (h : zed c ep m r) {e n : Int} {g : Lse} {s : Sg} {since tries rest : Int} (hg : zbm m.QL ⟨e, n⟩ = some g) (hx : zbm m.TL g.job = some ⟨false, s, since, tries, rest⟩) {TL' : List (Jk × Tsk)}
  (hp : zev c { m with L := zcj m.L s, Gl := zer m.Gl s (), TL := zcj m.TL g.job, QL := zcj m.QL ⟨e, n⟩ } TL') :
  (r.commit e n).2 = 0 /\ zed c ep { m with L := zcj m.L s, Gl := zer m.Gl s (), TL := TL', QL := zcj m.QL ⟨e, n⟩ } (r.commit e n).1 := by
 obtain ⟨j, h1, h2⟩ := lease_same h.sok.ok h.tsk h.slot e n hg hx
 have hE : r.commit e n = ({ r with gone := r.gone ++ [s] }.settled, 0) := by
  unfold RM.commit
  rw [h1]
  simp only [h2, Option.getD_some]
  unfold RM.done
  rw [if_neg (by show ¬ ((2 : Int) = 1); decide)]
  rfl
 rw [hE]
 refine ⟨rfl, ?_⟩
 have hm := h.sok.ok
 have ho := hm.tasks _ (zat hx)
 have hmem : s ∈ zam m.L := ho.mem
 have hst : (stL m.L s).st ≠ 2 := ho.recl rfl
 have hm1 := (hm.reclaimed hg hx rfl).1
 have hi1 := h.tie.inv.reclaimed h.ok h.fits hm hx (zcj m.QL ⟨e, n⟩)
 have hgn : ¬ s ∈ r.gone := fun hs => hm.seg.disj _ (zbf hmem) (h.inGl.1 hs)
 have hgone : ∀ s', memB s' (r.gone ++ [s]) = true ↔ s' ∈ zaj (zer m.Gl s ()) := fun s' => by
  have : memB s' (r.gone ++ [s]) = true ↔ s' ∈ r.gone \/ s' = s := by unfold memB; simp
  rw [this, h.inGl, zbw]
 have hpub : ∀ s', memB s' r.pub = true ↔ Pub (zcj m.L s) s' \/ (0 <= s'.t /\ s' ∈ zaj (zer m.Gl s ())) := fun s' => by
  rw [h.tie.pub, zbw]
  constructor
  ·rintro (⟨v, hv, h3⟩ | ⟨h3, h4⟩)
   ·by_cases e : s' = s
    ·refine .inr ⟨?_, .inr e⟩
     have hin := hm.seg.inr _ hv
     by_cases ht : s'.t = -1
     ·have := (hm.seg.raw _ hv ht).1
      dsimp only at this; omega
     ·have := hin.2.1
      dsimp only at this; omega
    ·exact .inl ⟨v, zbh.2 ⟨hv, e⟩, h3⟩
   ·exact .inr ⟨h3, .inl h4⟩
  ·rintro (⟨v, hv, h3⟩ | ⟨h3, h4 | h4⟩)
   ·exact .inl ⟨v, (zbh.1 hv).1, h3⟩
   ·exact .inr ⟨h3, h4⟩
   ·left
    rw [h4] at h3 ⊢
    rcases hm.seg.tier _ (zbf hmem) h3 with h5 | h5
    ·exact absurd h5 hst
    ·exact ⟨_, zbf hmem, h5⟩
 have ht1 : TieR c { m with L := zcj m.L s, Gl := zer m.Gl s (), TL := zcj m.TL g.job, QL := zcj m.QL ⟨e, n⟩ } { r with gone := r.gone ++ [s], tasks := r.tasks.filter (fun t => !decide (t.kind = (2 : Int) /\ t.s = s)) } := ⟨h.tie.hc, h.tie.now, hgone, hpub, hi1⟩
 have hk1 : zcf (zcj m.TL g.job) (zcj m.QL ⟨e, n⟩) (r.tasks.filter (fun t => !decide (t.kind = (2 : Int) /\ t.s = s))) := h.tsk.dropped hm hg hx
 have hts := settle_all h.ok h.fits hm1 ht1 hk1 hp
 rw [show ({ r with gone := r.gone ++ [s], tasks := r.tasks.filter (fun t => !decide (t.kind = (2 : Int) /\ t.s = s)) } : RM).settled.tasks = ({ r with gone := r.gone ++ [s] } : RM).settled.tasks from settled_drop { r with gone := r.gone ++ [s] } 2 s (by
  unfold readyK
  rw [if_neg (by decide)]
  unfold zdk zef
  have : memB s ({ r with gone := r.gone ++ [s] } : RM).gone = true := memB_true (by simp)
  rw [this]; simp)] at hts
 have ha : Act1 c ep m r.nums { m with L := zcj m.L s, Gl := zer m.Gl s (), TL := TL', QL := zcj m.QL ⟨e, n⟩ } r.nums := .reclaimed m r.nums ⟨e, n⟩ g s since tries rest TL' hg hx hp
 refine ⟨h.ok, h.fits, ha.ok h.ok h.fits h.sok, ⟨h.tie.hc, h.tie.now, hgone, hpub, h.tie.inv.act h.ok h.fits h.sok (by have := h.len; omega) ha⟩, hts, fun q hq => h.slot q (zbh.1 hq).1, h.picks, h.epo, fun s' hs' => ?_, ?_, h.np, h.full, PComp.of hp⟩
 ·rcases zbw.1 hs' with hs' | rfl
  ·exact h.ghas s' hs'
  ·exact h.tie.inv.has _ hmem
 ·show (r.gone ++ [s]).Nodup
  rw [List.nodup_append]
  exact ⟨h.ng, by simp, fun a hma b hb e => by simp at hb; subst hb; subst e; exact hgn hma⟩
theorem zed.new (hc : c.ok) (hf : c.fits) : zed c ep ⟨0, [], [], 0, [], []⟩ ⟨c, 0, [], [], [], [], ep, 0⟩ := by
 refine ⟨hc, hf, SOk.new hc, ⟨rfl, rfl, fun s => by simp [memB, zaj], fun s => by simp [memB, zaj, Pub], RInv.start c 0⟩, ⟨[], by simp, by simp, rfl⟩, by simp, rfl, rfl, by simp [zaj], by simp, by simp, fun T => by simp [zff], ⟨[], fun x => by simp [zaj, zam], by simp [zam], by simp [zam]⟩⟩
end
end Go.Proofs.YtpbimdkclnekeaaGreat

namespace Go.Proofs.YtpbimdkclnekeaaGreat
open Value (int)
open IntKind (i64)
open Go.RowKit Go.Maps Go.Shelf
set_option linter.unusedVariables false
set_option maxRecDepth 8000 in
set_option maxHeartbeats 2000000 in
theorem tells_any {w : World} {po d : Nat} {i : Ids} {c : Cf} {ct mv td : Value} {ep eo : Int} {m : MS} (h : zbb w i c ep m) (hc : c.ok) (hu : 0 <= zby m.L /\ zby m.L <= 1000) (hlen : m.L.length <= 100000) (c' : Cf) (hp : w.heap[po]? = some (zay i.x d c' ct mv td eo)) :
  Calls Tryz.prog 51 #[.pointer (some ⟨po, 0, none⟩), .pointer (some ⟨i.x, 0, none⟩)] w fun e w' => e = .returned (.bool (decide (eo < ep))) /\ w'.heap[po]? = some (zay i.x d c' ct mv td ep) /\ zan (fun k => k = po) w w' := by
 have HST := zab (mstats_any h hc hu hlen)
 generalize zby m.L = U at *
 generalize zcv m.L 1 = A1 at *
 generalize zcv m.L 2 = A2 at *
 generalize zcv m.L 3 = A3 at *
 generalize m.Gl.length = A4 at *
 generalize zej (tightB U c.qu) = T at *
 generalize i.x = x at *
 have hpl := zaa hp
 have HP := zab hp
 clear h hp hu hlen
 go_enter Tryz.func51, Tryz.ntmps51
 go_wp2_with fail
 refine (ud HST).mono ?_
 rintro e w1 ⟨rfl, hb1⟩
 have hp1 := (hb1.block po hpl).trans (ud HP)
 have p12 : w1.cell? ⟨po, 12, none⟩ = some (int i64 eo) := by unfold zay at hp1; rw [zac hp1]; rfl
 have pf : ∀ j, w1.frozen? ⟨po, j, none⟩ = false := fun j => by unfold zay at hp1; exact zaz hp1 j
 have hpl1 := zaa hp1
 have HP1 := zab hp1
 have HB1 := zab hb1
 clear hp1 hb1
 go_wp2_with fail
 go_region
 go_wp2_with fail
 go_ret
 have hk1 : zan (fun k => k = po) w w1 := zan.of_below (ud HB1)
 have hs1 : (w1.setCell ⟨po, 12, none⟩ (int i64 ep)).heap[po]? = some (zay x d c' ct mv td ep) := by
  have := ud HP1
  unfold zay at this
  exact zbz (i := 12) this _
 exact ⟨rfl, (Below.heap_alloc _ _ _ (zaa hs1)).trans hs1, ((zag hk1 rfl).alloc _).drew⟩
theorem token_any (toks : List Tok) (o : Ops) (hoa : -9223372036854775808 <= o.a /\ o.a <= 9223372036854775807) (hT : (⟨o.te, o.tn⟩ : Tok).wf) (hwf : ∀ t ∈ toks, t.wf) (hl : toks.length <= 1099511627776) :
  ∃ t : Tok, t.wf /\ ∀ (w : World) (po x d : Nat) (c' : Cf) (ct mv td : Value) (eo : Int), w.heap[po]? = some (zay x d c' ct mv td eo) -> w.ownsRow 0 49 2 td toks.length (toks.flatMap tkV2) ->
   Calls Tryz.prog 102 #[.pointer (some ⟨po, 0, none⟩), .agg #[int i64 o.kd, int i64 o.on, int i64 o.a, int i64 o.b, int i64 o.c, .int .i32 o.v, int i64 o.te, int i64 o.tn, int i64 o.fs, int i64 o.fle, int i64 o.fla, int i64 o.fwi, int i64 o.fke, int i64 o.fqu, .slice o.fa o.fn o.fcap]] w fun e w' => e = .returned (.agg #[int i64 t.ep, int i64 t.num]) /\ Below w.heap.size w w' := by
 by_cases hb : o.b = 0
 ·by_cases h0 : toks = []
  ·subst h0
   refine ⟨⟨o.te, o.tn⟩, hT, fun w po x d c' ct mv td eo hp htd => ?_⟩
   obtain ⟨a, cap, rfl⟩ := zah htd
   exact token_none c' hp o
  ·have hpos : 0 < toks.length := List.length_pos_iff.2 h0
   obtain ⟨i, hi, hpk⟩ := pick_at o.a toks.length hoa hpos
   have hj : toks.length - 1 - i < toks.length := by omega
   have hget : toks[toks.length - 1 - i]? = some toks[toks.length - 1 - i] := List.getElem?_eq_getElem hj
   generalize hjj : toks.length - 1 - i = j at *
   generalize toks[j] = t at *
   refine ⟨t, hwf t (List.mem_of_getElem? hget), fun w po x d c' ct mv td eo hp htd => ?_⟩
   obtain ⟨g, cap, rfl, -, hg⟩ := htd.form (by omega)
   refine token_told c' hp o hb hg (i := i) (j := j) (by omega) hj hl hpk ?_ ?_
   ·rw [htd.cellAt (j * 2) (by omega)]
    exact zek (f := tkV2) (k := 2) (fun _ => rfl) toks j t 0 hget (by omega)
   ·rw [htd.cellAt (j * 2 + 1) (by omega)]
    exact zek (f := tkV2) (k := 2) (fun _ => rfl) toks j t 1 hget (by omega)
 ·exact ⟨⟨o.te, o.tn⟩, hT, fun w po x d c' ct mv td eo hp htd => token_own c' hp o hb⟩
theorem own_ge {w : World} {base : Nat} {e : TypeId} {size : Nat} {v : Value} {n : Nat} {xs : List Value} (h : w.ownsRow base e size v n xs) : ∀ k, v.ownBlock = some k -> base <= k := fun k hk => by
 rcases h.2 with ⟨rfl, _⟩ | ⟨g, cap, cur, rfl, hb, _⟩
 ·simp [Value.ownBlock] at hk
 ·simp [Value.ownBlock] at hk; subst hk; exact hb
def refPost (B : Nat) (X : World) (q : Nat) (m' : RM) (tv nv pv gv kv : Value) (V : World) : Prop := ∃ nv' pv' gv' kv', zbk B V q m' tv nv' pv' gv' kv' /\ (∀ k, pv'.ownBlock = some k -> ¬ gv'.ownBlock = some k) /\ zan (rfoot q tv nv pv gv kv) X V /\ ∀ k, rfoot q tv nv' pv' gv' kv' k -> rfoot q tv nv pv gv kv k \/ X.heap.size <= k
theorem refPost.kept {B : Nat} {X : World} {q : Nat} {m' : RM} {tv nv pv gv kv : Value} {V : World} (h : refPost B X q m' tv nv pv gv kv V) : zan (rfoot q tv nv pv gv kv) X V := by
 obtain ⟨_, _, _, _, _, _, h, _⟩ := h
 exact h
theorem ref_lt {B : Nat} {w : World} {q : Nat} {m : RM} {tv nv pv gv kv : Value} (h : zbk B w q m tv nv pv gv kv) : ∀ k, rfoot q tv nv pv gv kv k -> B <= k /\ k < w.heap.size := fun k hk => by
 rcases hk with rfl | hk | hk | hk | hk | hk
 ·exact ⟨h.base, h.lt⟩
 ·exact ⟨own_ge h.trow k hk, own_lt h.trow k hk⟩
 ·exact ⟨own_ge h.nrow k hk, own_lt h.nrow k hk⟩
 ·exact ⟨own_ge h.prow k hk, own_lt h.prow k hk⟩
 ·exact ⟨own_ge h.grow k hk, own_lt h.grow k hk⟩
 ·exact ⟨own_ge h.krow k hk, own_lt h.krow k hk⟩
theorem refPost_close {B N : Nat} {w X V Z : World} {q : Nat} {m' : RM} {tv nv pv gv kv : Value} (hr : ∀ k, rfoot q tv nv pv gv kv k -> B <= k /\ k < w.heap.size) (hbw : Below w.heap.size w X) (hz : X.heap.size = w.heap.size + N) (hm : refPost B X q m' tv nv pv gv kv V) {g : Nat} (hKZ : zan (fun k => k = g) V Z) (hg1 : w.heap.size <= g := by omega) (hg2 : g < X.heap.size := by omega) : refPost B w q m' tv nv pv gv kv Z := by
 obtain ⟨nv', pv', gv', kv', h1, h2, h3, h4⟩ := hm
 refine ⟨nv', pv', gv', kv', h1.kept hKZ (fun k hk e => ?_), h2, ((zan.of_below (f := rfoot q tv nv pv gv kv) hbw).trans h3 (fun _ _ h => h)).trans hKZ (fun i hi e => ?_), fun k hk => ?_⟩
 ·rcases h4 k hk with h | h
  ·have := (hr k h).2; omega
  ·omega
 ·omega
 ·rcases h4 k hk with h | h
  ·exact .inl h
  ·exact .inr (by omega)
set_option maxRecDepth 8000 in
set_option maxHeartbeats 4000000 in
theorem called_2 {w : World} {po d : Nat} {i : Ids} {c : Cf} {ct mv td : Value} {ep eo : Int} (c' : Cf) (hp : w.heap[po]? = some (zay i.x d c' ct mv td eo)) (hpn : ¬ zcz i po) (hfl : ∀ k, zcz i k -> k < w.heap.size) (o : Ops) (te tn : Int) (Ans : Int -> MS -> Prop)
  (HC0 : ∀ X, Below w.heap.size w X -> Calls Tryz.prog 59 #[.pointer (some ⟨i.x, 0, none⟩), int i64 o.a, int i64 o.b, .int .i32 o.v] X fun e V => ∃ (cd : Int) (m' : MS), e = .returned (int i64 cd) /\ zbb V i c ep m' /\ zan (zcz i) X V /\ Ans cd m') :
  Calls Tryz.prog 103 #[.pointer (some ⟨po, 0, none⟩), .agg #[int i64 2, int i64 o.on, int i64 o.a, int i64 o.b, int i64 o.c, .int .i32 o.v, int i64 o.te, int i64 o.tn, int i64 o.fs, int i64 o.fle, int i64 o.fla, int i64 o.fwi, int i64 o.fke, int i64 o.fqu, .slice o.fa o.fn o.fcap], .agg #[int i64 te, int i64 tn]] w fun e w' => ∃ (cd : Int) (m' : MS), e = .returned (.tuple #[.agg #[int i64 0, int i64 0, int i64 0, int i64 0, int i64 0, int i64 0, int i64 0, int i64 0, int i64 0, int i64 0, int i64 0], int i64 cd]) /\ zbb w' i c ep m' /\ zan (zcz i) w w' /\ Ans cd m' := by
 obtain ⟨y0, y1, y2, hbw, yz⟩ := box3p w (.cells #[int i64 2, int i64 o.on, int i64 o.a, int i64 o.b, int i64 o.c, .int .i32 o.v, int i64 o.te, int i64 o.tn, int i64 o.fs, int i64 o.fle, int i64 o.fla, int i64 o.fwi, int i64 o.fke, int i64 o.fqu, .slice o.fa o.fn o.fcap] 68) (.cells #[int i64 te, int i64 tn] 49) (.cells #[int i64 0, int i64 0, int i64 0, int i64 0, int i64 0, int i64 0, int i64 0, int i64 0, int i64 0, int i64 0, int i64 0] 51)
 have HC := fun (V : World) (hb : Below w.heap.size w V) => zab (HC0 V hb)
 have HFT := zab hfl
 have hpl := zaa hp
 have HP := zab hp
 clear hp HC0
 go_enter Tryz.func103, Tryz.ntmps103
 go_wp2_with fail
 generalize (((w.alloc (.cells #[int i64 2, int i64 o.on, int i64 o.a, int i64 o.b, int i64 o.c, .int .i32 o.v, int i64 o.te, int i64 o.tn, int i64 o.fs, int i64 o.fle, int i64 o.fla, int i64 o.fwi, int i64 o.fke, int i64 o.fqu, .slice o.fa o.fn o.fcap] 68)).alloc (.cells #[int i64 te, int i64 tn] 49)).alloc (.cells #[int i64 0, int i64 0, int i64 0, int i64 0, int i64 0, int i64 0, int i64 0, int i64 0, int i64 0, int i64 0, int i64 0] 51)) = X at *
 have HCa := HC X hbw
 have HCb := HC X.drew hbw.drew
 clear HC
 have hpx := (hbw.block po hpl).trans (ud HP)
 have z0 : X.cell? ⟨po, 0, none⟩ = some (.pointer (some ⟨i.x, 0, none⟩)) := by unfold zay at hpx; rw [zac hpx]; rfl
 have zz0_2 : X.cell? ⟨w.heap.size, 2, none⟩ = some (int i64 o.a) := by rw [zac y0]; rfl
 have zz0_3 : X.cell? ⟨w.heap.size, 3, none⟩ = some (int i64 o.b) := by rw [zac y0]; rfl
 have zz0_5 : X.cell? ⟨w.heap.size, 5, none⟩ = some (.int .i32 o.v) := by rw [zac y0]; rfl
 have hpX : po < X.heap.size := by omega
 have hqX0 : w.heap.size < X.heap.size := by omega
 have hqX1 : w.heap.size + 1 < X.heap.size := by omega
 have hn0 : ¬ zcz i w.heap.size := fun e => by have := hfl _ e; omega
 have hn1 : ¬ zcz i (w.heap.size + 1) := fun e => by have := hfl _ e; omega
 have hn2 : ¬ zcz i (w.heap.size + 2) := fun e => by have := hfl _ e; omega
 have hjX : w.heap.size + 2 < X.heap.size := by omega
 have Y2 := zab y2
 have HBW := zab hbw
 have YZ := zab yz
 clear y0 y1 y2 hbw yz hpx hfl
 go_region_held3 (fun w' => w'.cell? ⟨po, 0, none⟩ = some (.pointer (some ⟨i.x, 0, none⟩)) /\ w'.cell? ⟨w.heap.size, 2, none⟩ = some (int i64 o.a) /\ w'.cell? ⟨w.heap.size, 3, none⟩ = some (int i64 o.b) /\ w'.cell? ⟨w.heap.size, 5, none⟩ = some (.int .i32 o.v)) (go_keep) (first
  | (go_at_call 59; (first | refine (ud HCb).mono ?_ | refine (ud HCa).mono ?_); rintro e V ⟨cd, m', rfl, hm, hk0, ha⟩; have hk : zan (zcz i) X V := ⟨hk0.os, hk0.tape, hk0.output, hk0.size, hk0.block⟩; clear hk0; have HAN := zab ha; have HMV := zab hm; have v0 := (zbv (i := 0) hk hpn hpX).trans z0; have v02 := (zbv (i := 2) hk hn0 hqX0).trans zz0_2; have v03 := (zbv (i := 3) hk hn0 hqX0).trans zz0_3; have v05 := (zbv (i := 5) hk hn0 hqX0).trans zz0_5; have HJV := zab ((hk.block (w.heap.size + 2) hjX hn2).trans (ud Y2)); have HKV := zab hk; clear hm hk ha))
 have jf := fun i => zaz (ud HJV) i
 obtain ⟨j0, j1, j2, j3, j4, j5, j6, j7, j8, j9, j10⟩ := z11 (ud HJV)
 go_wp2_with (go_at_call 98; refine (num_any _ _).mono ?_; rintro e V1 ⟨rfl, hV1⟩; rw [hV1]; clear hV1)
 have hf := row11 (ud HJV) (int i64 0) (int i64 0) (int i64 0) (int i64 0) (int i64 0) (int i64 0) (int i64 0) (int i64 0) (int i64 0) (int i64 0) (int i64 0)
 have hKZ := kept11 (w := V) (g := w.heap.size + 2) (int i64 0) (int i64 0) (int i64 0) (int i64 0) (int i64 0) (int i64 0) (int i64 0) (int i64 0) (int i64 0) (int i64 0) (int i64 0)
 refine bodyPost_ret (v := .tuple #[.agg #[int i64 0, int i64 0, int i64 0, int i64 0, int i64 0, int i64 0, int i64 0, int i64 0, int i64 0, int i64 0, int i64 0], int i64 cd]) (zak Tryz.results103 _ _ (w.heap.size + 2) _ _ _ _ _ rfl rfl hf Tryz.underlying51 rfl (by kernel_rfl)) rfl ?_
 exact ⟨cd, m', rfl, (ud HMV).kept hKZ (fun k hk e => by have := ud HFT k hk; omega), ((zan.of_below (f := zcz i) (ud HBW)).trans (ud HKV) (fun _ _ h => h)).trans hKZ (fun i hi e => by omega), ud HAN⟩
set_option maxRecDepth 8000 in
set_option maxHeartbeats 4000000 in
theorem called_3 {w : World} {po d : Nat} {i : Ids} {c : Cf} {ct mv td : Value} {ep eo : Int} (c' : Cf) (hp : w.heap[po]? = some (zay i.x d c' ct mv td eo)) (hpn : ¬ zcz i po) (hfl : ∀ k, zcz i k -> k < w.heap.size) (o : Ops) (te tn : Int) (Ans : Int -> MS -> Prop)
  (HC0 : ∀ X, Below w.heap.size w X -> Calls Tryz.prog 36 #[.pointer (some ⟨i.x, 0, none⟩), int i64 o.a] X fun e V => ∃ (cd : Int) (m' : MS), e = .returned (int i64 cd) /\ zbb V i c ep m' /\ zan (zcz i) X V /\ Ans cd m') :
  Calls Tryz.prog 103 #[.pointer (some ⟨po, 0, none⟩), .agg #[int i64 3, int i64 o.on, int i64 o.a, int i64 o.b, int i64 o.c, .int .i32 o.v, int i64 o.te, int i64 o.tn, int i64 o.fs, int i64 o.fle, int i64 o.fla, int i64 o.fwi, int i64 o.fke, int i64 o.fqu, .slice o.fa o.fn o.fcap], .agg #[int i64 te, int i64 tn]] w fun e w' => ∃ (cd : Int) (m' : MS), e = .returned (.tuple #[.agg #[int i64 0, int i64 0, int i64 0, int i64 0, int i64 0, int i64 0, int i64 0, int i64 0, int i64 0, int i64 0, int i64 0], int i64 cd]) /\ zbb w' i c ep m' /\ zan (zcz i) w w' /\ Ans cd m' := by
 obtain ⟨y0, y1, y2, hbw, yz⟩ := box3p w (.cells #[int i64 3, int i64 o.on, int i64 o.a, int i64 o.b, int i64 o.c, .int .i32 o.v, int i64 o.te, int i64 o.tn, int i64 o.fs, int i64 o.fle, int i64 o.fla, int i64 o.fwi, int i64 o.fke, int i64 o.fqu, .slice o.fa o.fn o.fcap] 68) (.cells #[int i64 te, int i64 tn] 49) (.cells #[int i64 0, int i64 0, int i64 0, int i64 0, int i64 0, int i64 0, int i64 0, int i64 0, int i64 0, int i64 0, int i64 0] 51)
 have HC := fun (V : World) (hb : Below w.heap.size w V) => zab (HC0 V hb)
 have HFT := zab hfl
 have hpl := zaa hp
 have HP := zab hp
 clear hp HC0
 go_enter Tryz.func103, Tryz.ntmps103
 go_wp2_with fail
 generalize (((w.alloc (.cells #[int i64 3, int i64 o.on, int i64 o.a, int i64 o.b, int i64 o.c, .int .i32 o.v, int i64 o.te, int i64 o.tn, int i64 o.fs, int i64 o.fle, int i64 o.fla, int i64 o.fwi, int i64 o.fke, int i64 o.fqu, .slice o.fa o.fn o.fcap] 68)).alloc (.cells #[int i64 te, int i64 tn] 49)).alloc (.cells #[int i64 0, int i64 0, int i64 0, int i64 0, int i64 0, int i64 0, int i64 0, int i64 0, int i64 0, int i64 0, int i64 0] 51)) = X at *
 have HCa := HC X hbw
 have HCb := HC X.drew hbw.drew
 clear HC
 have hpx := (hbw.block po hpl).trans (ud HP)
 have z0 : X.cell? ⟨po, 0, none⟩ = some (.pointer (some ⟨i.x, 0, none⟩)) := by unfold zay at hpx; rw [zac hpx]; rfl
 have zz0_2 : X.cell? ⟨w.heap.size, 2, none⟩ = some (int i64 o.a) := by rw [zac y0]; rfl
 have hpX : po < X.heap.size := by omega
 have hqX0 : w.heap.size < X.heap.size := by omega
 have hqX1 : w.heap.size + 1 < X.heap.size := by omega
 have hn0 : ¬ zcz i w.heap.size := fun e => by have := hfl _ e; omega
 have hn1 : ¬ zcz i (w.heap.size + 1) := fun e => by have := hfl _ e; omega
 have hn2 : ¬ zcz i (w.heap.size + 2) := fun e => by have := hfl _ e; omega
 have hjX : w.heap.size + 2 < X.heap.size := by omega
 have Y2 := zab y2
 have HBW := zab hbw
 have YZ := zab yz
 clear y0 y1 y2 hbw yz hpx hfl
 go_region_held3 (fun w' => w'.cell? ⟨po, 0, none⟩ = some (.pointer (some ⟨i.x, 0, none⟩)) /\ w'.cell? ⟨w.heap.size, 2, none⟩ = some (int i64 o.a)) (go_keep) (first
  | (go_at_call 36; (first | refine (ud HCb).mono ?_ | refine (ud HCa).mono ?_); rintro e V ⟨cd, m', rfl, hm, hk0, ha⟩; have hk : zan (zcz i) X V := ⟨hk0.os, hk0.tape, hk0.output, hk0.size, hk0.block⟩; clear hk0; have HAN := zab ha; have HMV := zab hm; have v0 := (zbv (i := 0) hk hpn hpX).trans z0; have v02 := (zbv (i := 2) hk hn0 hqX0).trans zz0_2; have HJV := zab ((hk.block (w.heap.size + 2) hjX hn2).trans (ud Y2)); have HKV := zab hk; clear hm hk ha))
 have jf := fun i => zaz (ud HJV) i
 obtain ⟨j0, j1, j2, j3, j4, j5, j6, j7, j8, j9, j10⟩ := z11 (ud HJV)
 go_wp2_with (go_at_call 98; refine (num_any _ _).mono ?_; rintro e V1 ⟨rfl, hV1⟩; rw [hV1]; clear hV1)
 have hf := row11 (ud HJV) (int i64 0) (int i64 0) (int i64 0) (int i64 0) (int i64 0) (int i64 0) (int i64 0) (int i64 0) (int i64 0) (int i64 0) (int i64 0)
 have hKZ := kept11 (w := V) (g := w.heap.size + 2) (int i64 0) (int i64 0) (int i64 0) (int i64 0) (int i64 0) (int i64 0) (int i64 0) (int i64 0) (int i64 0) (int i64 0) (int i64 0)
 refine bodyPost_ret (v := .tuple #[.agg #[int i64 0, int i64 0, int i64 0, int i64 0, int i64 0, int i64 0, int i64 0, int i64 0, int i64 0, int i64 0, int i64 0], int i64 cd]) (zak Tryz.results103 _ _ (w.heap.size + 2) _ _ _ _ _ rfl rfl hf Tryz.underlying51 rfl (by kernel_rfl)) rfl ?_
 exact ⟨cd, m', rfl, (ud HMV).kept hKZ (fun k hk e => by have := ud HFT k hk; omega), ((zan.of_below (f := zcz i) (ud HBW)).trans (ud HKV) (fun _ _ h => h)).trans hKZ (fun i hi e => by omega), ud HAN⟩
set_option maxRecDepth 8000 in
set_option maxHeartbeats 4000000 in
theorem done_2 {B : Nat} {w : World} {q : Nat} {m : RM} {tv nv pv gv kv : Value} (h : zbk B w q m tv nv pv gv kv) (o : Ops) (te tn : Int) {cd : Int} {m' : RM}
  (HC0 : ∀ X, Below w.heap.size w X -> Calls Tryz.prog 152 #[.pointer (some ⟨q, 0, none⟩), int i64 o.a, int i64 o.b, .int .i32 o.v] X fun e V => e = .returned (int i64 cd) /\ refPost B X q m' tv nv pv gv kv V) :
  Calls Tryz.prog 105 #[.pointer (some ⟨q, 0, none⟩), .agg #[int i64 2, int i64 o.on, int i64 o.a, int i64 o.b, int i64 o.c, .int .i32 o.v, int i64 o.te, int i64 o.tn, int i64 o.fs, int i64 o.fle, int i64 o.fla, int i64 o.fwi, int i64 o.fke, int i64 o.fqu, .slice o.fa o.fn o.fcap], .agg #[int i64 te, int i64 tn]] w fun e w' => e = .returned (.tuple #[.agg #[int i64 0, int i64 0, int i64 0, int i64 0, int i64 0, int i64 0, int i64 0, int i64 0, int i64 0, int i64 0, int i64 0], int i64 cd]) /\ refPost B w q m' tv nv pv gv kv w' := by
 obtain ⟨y0, y1, y2, hbw, yz⟩ := box3p w (.cells #[int i64 2, int i64 o.on, int i64 o.a, int i64 o.b, int i64 o.c, .int .i32 o.v, int i64 o.te, int i64 o.tn, int i64 o.fs, int i64 o.fle, int i64 o.fla, int i64 o.fwi, int i64 o.fke, int i64 o.fqu, .slice o.fa o.fn o.fcap] 68) (.cells #[int i64 te, int i64 tn] 49) (.cells #[int i64 0, int i64 0, int i64 0, int i64 0, int i64 0, int i64 0, int i64 0, int i64 0, int i64 0, int i64 0, int i64 0] 51)
 have HC := zab (HC0 _ hbw)
 have HRB := zab (ref_lt h)
 have hql := h.lt
 clear h HC0
 go_enter Tryz.func105, Tryz.ntmps105
 have Y2 := zab y2
 have HBW := zab hbw
 have YZ := zab yz
 clear y0 y1 y2 hbw yz
 go_wp2_with fail
 generalize (((w.alloc (.cells #[int i64 2, int i64 o.on, int i64 o.a, int i64 o.b, int i64 o.c, .int .i32 o.v, int i64 o.te, int i64 o.tn, int i64 o.fs, int i64 o.fle, int i64 o.fla, int i64 o.fwi, int i64 o.fke, int i64 o.fqu, .slice o.fa o.fn o.fcap] 68)).alloc (.cells #[int i64 te, int i64 tn] 49)).alloc (.cells #[int i64 0, int i64 0, int i64 0, int i64 0, int i64 0, int i64 0, int i64 0, int i64 0, int i64 0, int i64 0, int i64 0] 51)) = X at *
 refine (ud HC).mono ?_
 rintro e V ⟨rfl, hm⟩
 have hjX : w.heap.size + 2 < X.heap.size := by rw [ud YZ]; omega
 have hjv := hm.kept.heap (ud Y2) (fun e => by have := (ud HRB _ e).2; omega)
 have HJV := zab hjv
 have HMV := zab hm
 clear hm hjv
 obtain ⟨j0, j1, j2, j3, j4, j5, j6, j7, j8, j9, j10⟩ := z11 (ud HJV)
 have jf := fun i => zaz (ud HJV) i
 have jl := zaa (ud HJV)
 go_wp2_with fail
 have hf := row11 (ud HJV) (int i64 0) (int i64 0) (int i64 0) (int i64 0) (int i64 0) (int i64 0) (int i64 0) (int i64 0) (int i64 0) (int i64 0) (int i64 0)
 have hKZ := kept11 (w := V) (g := w.heap.size + 2) (int i64 0) (int i64 0) (int i64 0) (int i64 0) (int i64 0) (int i64 0) (int i64 0) (int i64 0) (int i64 0) (int i64 0) (int i64 0)
 refine bodyPost_ret (v := .tuple #[.agg #[int i64 0, int i64 0, int i64 0, int i64 0, int i64 0, int i64 0, int i64 0, int i64 0, int i64 0, int i64 0, int i64 0], int i64 cd]) (zak Tryz.results105 _ _ (w.heap.size + 2) _ _ _ _ _ rfl rfl hf Tryz.underlying51 rfl (by kernel_rfl)) rfl ?_
 exact ⟨rfl, refPost_close (ud HRB) (ud HBW) (ud YZ) (ud HMV) hKZ⟩
set_option maxRecDepth 8000 in
set_option maxHeartbeats 4000000 in
theorem done_3 {B : Nat} {w : World} {q : Nat} {m : RM} {tv nv pv gv kv : Value} (h : zbk B w q m tv nv pv gv kv) (o : Ops) (te tn : Int) {cd : Int} {m' : RM}
  (HC0 : ∀ X, Below w.heap.size w X -> Calls Tryz.prog 153 #[.pointer (some ⟨q, 0, none⟩), int i64 o.a] X fun e V => e = .returned (int i64 cd) /\ refPost B X q m' tv nv pv gv kv V) :
  Calls Tryz.prog 105 #[.pointer (some ⟨q, 0, none⟩), .agg #[int i64 3, int i64 o.on, int i64 o.a, int i64 o.b, int i64 o.c, .int .i32 o.v, int i64 o.te, int i64 o.tn, int i64 o.fs, int i64 o.fle, int i64 o.fla, int i64 o.fwi, int i64 o.fke, int i64 o.fqu, .slice o.fa o.fn o.fcap], .agg #[int i64 te, int i64 tn]] w fun e w' => e = .returned (.tuple #[.agg #[int i64 0, int i64 0, int i64 0, int i64 0, int i64 0, int i64 0, int i64 0, int i64 0, int i64 0, int i64 0, int i64 0], int i64 cd]) /\ refPost B w q m' tv nv pv gv kv w' := by
 obtain ⟨y0, y1, y2, hbw, yz⟩ := box3p w (.cells #[int i64 3, int i64 o.on, int i64 o.a, int i64 o.b, int i64 o.c, .int .i32 o.v, int i64 o.te, int i64 o.tn, int i64 o.fs, int i64 o.fle, int i64 o.fla, int i64 o.fwi, int i64 o.fke, int i64 o.fqu, .slice o.fa o.fn o.fcap] 68) (.cells #[int i64 te, int i64 tn] 49) (.cells #[int i64 0, int i64 0, int i64 0, int i64 0, int i64 0, int i64 0, int i64 0, int i64 0, int i64 0, int i64 0, int i64 0] 51)
 have HC := zab (HC0 _ hbw)
 have HRB := zab (ref_lt h)
 have hql := h.lt
 clear h HC0
 go_enter Tryz.func105, Tryz.ntmps105
 have Y2 := zab y2
 have HBW := zab hbw
 have YZ := zab yz
 clear y0 y1 y2 hbw yz
 go_wp2_with fail
 generalize (((w.alloc (.cells #[int i64 3, int i64 o.on, int i64 o.a, int i64 o.b, int i64 o.c, .int .i32 o.v, int i64 o.te, int i64 o.tn, int i64 o.fs, int i64 o.fle, int i64 o.fla, int i64 o.fwi, int i64 o.fke, int i64 o.fqu, .slice o.fa o.fn o.fcap] 68)).alloc (.cells #[int i64 te, int i64 tn] 49)).alloc (.cells #[int i64 0, int i64 0, int i64 0, int i64 0, int i64 0, int i64 0, int i64 0, int i64 0, int i64 0, int i64 0, int i64 0] 51)) = X at *
 refine (ud HC).mono ?_
 rintro e V ⟨rfl, hm⟩
 have hjX : w.heap.size + 2 < X.heap.size := by rw [ud YZ]; omega
 have hjv := hm.kept.heap (ud Y2) (fun e => by have := (ud HRB _ e).2; omega)
 have HJV := zab hjv
 have HMV := zab hm
 clear hm hjv
 obtain ⟨j0, j1, j2, j3, j4, j5, j6, j7, j8, j9, j10⟩ := z11 (ud HJV)
 have jf := fun i => zaz (ud HJV) i
 have jl := zaa (ud HJV)
 go_wp2_with fail
 have hf := row11 (ud HJV) (int i64 0) (int i64 0) (int i64 0) (int i64 0) (int i64 0) (int i64 0) (int i64 0) (int i64 0) (int i64 0) (int i64 0) (int i64 0)
 have hKZ := kept11 (w := V) (g := w.heap.size + 2) (int i64 0) (int i64 0) (int i64 0) (int i64 0) (int i64 0) (int i64 0) (int i64 0) (int i64 0) (int i64 0) (int i64 0) (int i64 0)
 refine bodyPost_ret (v := .tuple #[.agg #[int i64 0, int i64 0, int i64 0, int i64 0, int i64 0, int i64 0, int i64 0, int i64 0, int i64 0, int i64 0, int i64 0], int i64 cd]) (zak Tryz.results105 _ _ (w.heap.size + 2) _ _ _ _ _ rfl rfl hf Tryz.underlying51 rfl (by kernel_rfl)) rfl ?_
 exact ⟨rfl, refPost_close (ud HRB) (ud HBW) (ud YZ) (ud HMV) hKZ⟩
end Go.Proofs.YtpbimdkclnekeaaGreat
