import Derived.Test.YtpbimdkclnekeaaGreatTSum1
import Derived.Test.YtpbimdkclnekeaaGreatTWhr0
import Derived.Test.YtpbimdkclnekeaaGreatTSum3
import Derived.Test.YtpbimdkclnekeaaGreatTItr1
import Derived.Laws.ResultCell

namespace Go.Proofs.YtpbimdkclnekeaaGreat
open Value (int)
open IntKind (i64)
open Go.RowKit Go.Maps Go.Shelf
set_option linter.unusedVariables false
theorem kx_below {n m : Nat} {w W : World} (h : KX (fun _ => False) n m w W) (hn : w.heap.size <= n) : Below w.heap.size w W := ⟨h.kept.os, h.kept.tape, h.kept.output, h.kept.size, fun k hk => h.low (by omega) (fun e => e) hk⟩
theorem wh0_seg (gf : Nat) (lb : Array Value) (hf : Nat) (hfs hc : Array Value) (w : World) :
  Calls Tryz.prog 126 #[.func (.func gf) #[] lb, .func (.func hf) hfs hc] w fun e w' => e = .returned (.func (.func 175) #[] #[.pointer (some ⟨w.heap.size, 0, none⟩), .pointer (some ⟨w.heap.size + 1, 0, none⟩)]) /\ w' = ((w.alloc (.cells #[.func (.func gf) #[] lb] 133)).alloc (.cells #[.func (.func hf) hfs hc] 143)) := by
 go_enter Tryz.func126, Tryz.ntmps126
 go_wp2_with fail
 go_ret
 exact ⟨rfl, rfl⟩
theorem wen_seg : ∀ args w, (callFunc 175 args).run Tryz.prog w = .ok (.enter 175 args) w := enters_of Tryz.func175 (by kernel_rfl) rfl
theorem one_seg (x : SV) (w : World) : Calls Tryz.prog 127 #[.agg #[int i64 x.st, int i64 x.cl.cnt, int i64 x.cl.sum, .int .i32 x.cl.mn, .int .i32 x.cl.mx]] w fun e w' => e = .returned (int i64 1) /\ Below w.heap.size w w' := by
 have hb : Below w.heap.size w (w.alloc (.cells #[int i64 x.st, int i64 x.cl.cnt, int i64 x.cl.sum, .int .i32 x.cl.mn, .int .i32 x.cl.mx] 131)) := (Below.refl _ _).alloc (Nat.le_refl _) _
 go_enter Tryz.func127, Tryz.ntmps127
 go_wp2_with fail
 go_ret
 first | exact ⟨rfl, hb⟩ | exact ⟨rfl, Below.refl _ _⟩
set_option maxRecDepth 8000 in
set_option maxHeartbeats 1000000 in
theorem cnt_seg (gf : Nat) (lb : Array Value) (eg : ∀ args w, (callFunc gf args).run Tryz.prog w = .ok (.enter gf args) w) (hf : Nat) (hfs hc : Array Value) (eh : ∀ args w, (callFunc hf args).run Tryz.prog w = .ok (.enter hf args) w) {N : Nat} {S : List SV -> Prop} (p : SV -> Bool) (w : World)
  (hof : ∀ (x : SV) (W : World), Below w.heap.size w W -> Calls Tryz.prog hf (hfs ++ #[.agg #[int i64 x.st, int i64 x.cl.cnt, int i64 x.cl.sum, .int .i32 x.cl.mn, .int .i32 x.cl.mx]] ++ hc) W fun e W' => e = .returned (.bool (p x)) /\ Below W.heap.size W W')
  (hseq : SeqF (fun _ => False) w.heap.size Tryz.prog gf lb (fun x : SV => #[.agg #[int i64 x.st, int i64 x.cl.cnt, int i64 x.cl.sum, .int .i32 x.cl.mn, .int .i32 x.cl.mx]]) S N w) (hN : ∀ xs, S xs -> xs.length <= 9223372036854775807) :
  Calls Tryz.prog 73 #[.func (.func gf) #[] lb, .func (.func hf) hfs hc] w fun e w' => ∃ xs, S xs /\ e = .returned (int i64 (xs.filter p).length) /\ Below w.heap.size w w' := by
 obtain ⟨b1, b2, hbw, bz⟩ := box2 w (.cells #[.func (.func gf) #[] lb] 133) (.cells #[.func (.func hf) hfs hc] 143)
 have hW : SeqF (fun _ => False) (w.heap.size + 2) Tryz.prog 175 #[.pointer (some ⟨w.heap.size, 0, none⟩), .pointer (some ⟨w.heap.size + 1, 0, none⟩)] (fun x : SV => #[.agg #[int i64 x.st, int i64 x.cl.cnt, int i64 x.cl.sum, .int .i32 x.cl.mn, .int .i32 x.cl.mx]]) (fun ys => ∃ xs, S xs /\ ys = xs.filter p) N ((w.alloc (.cells #[.func (.func gf) #[] lb] 133)).alloc (.cells #[.func (.func hf) hfs hc] 143)) :=
  where_seg gf lb eg hf hfs hc eh p w.heap.size (w.heap.size + 1) _ (by rw [bz]; omega) ⟨by omega, fun e => e⟩ ⟨by omega, fun e => e⟩ b1 b2 (fun x W ⟨m, hk⟩ => hof x W (hbw.trans ((kx_below hk (by rw [bz]; omega)).mono (by rw [bz]; omega)))) ((hseq.later hbw).lower (by omega))
 have HS := zab (sumX_seg1 175 _ wen_seg (fun _ => 1) _ (by rw [bz]; omega) (fun x W _ => one_seg x W) hW)
 have HW := zab (wh0_seg gf lb hf hfs hc w)
 have HB := zab hbw
 clear hof hseq hW b1 b2 hbw bz eg eh
 go_enter Tryz.func73, Tryz.ntmps73
 go_wp2_with (first
  | (go_at_call 126; refine (ud HW).mono ?_; rintro e w1 ⟨rfl, rfl⟩)
  | (go_at_call 70; refine (ud HS).mono ?_; rintro e w2 ⟨ys, ⟨xs, hS, rfl⟩, rfl, hb2⟩; have HB2 := zab hb2; have HHS := zab hS; clear hb2 hS))
 go_ret
 have hlen := Nat.le_trans (filter_len p xs) (hN xs (ud HHS))
 refine ⟨xs, ud HHS, by (first | rw [wsum_ones _ hlen] | rw [wsum_ones _ (by rw [List.length_unattach]; exact hlen), List.length_unattach]); rfl, (ud HB).trans ((ud HB2).mono (ud HB).size)⟩
theorem wh0_key (gf : Nat) (lb : Array Value) (hf : Nat) (hfs hc : Array Value) (w : World) :
  Calls Tryz.prog 144 #[.func (.func gf) #[] lb, .func (.func hf) hfs hc] w fun e w' => e = .returned (.func (.func 191) #[] #[.pointer (some ⟨w.heap.size, 0, none⟩), .pointer (some ⟨w.heap.size + 1, 0, none⟩)]) /\ w' = ((w.alloc (.cells #[.func (.func gf) #[] lb] 179)).alloc (.cells #[.func (.func hf) hfs hc] 226)) := by
 go_enter Tryz.func144, Tryz.ntmps144
 go_wp2_with fail
 go_ret
 exact ⟨rfl, rfl⟩
theorem wen_key : ∀ args w, (callFunc 191 args).run Tryz.prog w = .ok (.enter 191 args) w := enters_of Tryz.func191 (by kernel_rfl) rfl
theorem one_key {α : Type} (sg : α -> Sg) (x : α) (w : World) : Calls Tryz.prog 195 #[.agg #[int i64 (sg x).t, int i64 (sg x).ser, int i64 (sg x).win]] w fun e w' => e = .returned (int i64 1) /\ Below w.heap.size w w' := by
 have hb : Below w.heap.size w (w.alloc (.cells #[int i64 (sg x).t, int i64 (sg x).ser, int i64 (sg x).win] 137)) := (Below.refl _ _).alloc (Nat.le_refl _) _
 go_enter Tryz.func195, Tryz.ntmps195
 go_wp2_with fail
 go_ret
 first | exact ⟨rfl, hb⟩ | exact ⟨rfl, Below.refl _ _⟩
set_option maxRecDepth 8000 in
set_option maxHeartbeats 1000000 in
theorem cnt_key {α : Type} (sg : α -> Sg) (gf : Nat) (lb : Array Value) (eg : ∀ args w, (callFunc gf args).run Tryz.prog w = .ok (.enter gf args) w) (hf : Nat) (hfs hc : Array Value) (eh : ∀ args w, (callFunc hf args).run Tryz.prog w = .ok (.enter hf args) w) {N : Nat} {S : List α -> Prop} (p : α -> Bool) (w : World)
  (hof : ∀ (x : α) (W : World), Below w.heap.size w W -> Calls Tryz.prog hf (hfs ++ #[.agg #[int i64 (sg x).t, int i64 (sg x).ser, int i64 (sg x).win]] ++ hc) W fun e W' => e = .returned (.bool (p x)) /\ Below W.heap.size W W')
  (hseq : SeqF (fun _ => False) w.heap.size Tryz.prog gf lb (fun x : α => #[.agg #[int i64 (sg x).t, int i64 (sg x).ser, int i64 (sg x).win]]) S N w) (hN : ∀ xs, S xs -> xs.length <= 9223372036854775807) :
  Calls Tryz.prog 150 #[.func (.func gf) #[] lb, .func (.func hf) hfs hc] w fun e w' => ∃ xs, S xs /\ e = .returned (int i64 (xs.filter p).length) /\ Below w.heap.size w w' := by
 obtain ⟨b1, b2, hbw, bz⟩ := box2 w (.cells #[.func (.func gf) #[] lb] 179) (.cells #[.func (.func hf) hfs hc] 226)
 have hW : SeqF (fun _ => False) (w.heap.size + 2) Tryz.prog 191 #[.pointer (some ⟨w.heap.size, 0, none⟩), .pointer (some ⟨w.heap.size + 1, 0, none⟩)] (fun x : α => #[.agg #[int i64 (sg x).t, int i64 (sg x).ser, int i64 (sg x).win]]) (fun ys => ∃ xs, S xs /\ ys = xs.filter p) N ((w.alloc (.cells #[.func (.func gf) #[] lb] 179)).alloc (.cells #[.func (.func hf) hfs hc] 226)) :=
  where_key sg gf lb eg hf hfs hc eh p w.heap.size (w.heap.size + 1) _ (by rw [bz]; omega) ⟨by omega, fun e => e⟩ ⟨by omega, fun e => e⟩ b1 b2 (fun x W ⟨m, hk⟩ => hof x W (hbw.trans ((kx_below hk (by rw [bz]; omega)).mono (by rw [bz]; omega)))) ((hseq.later hbw).lower (by omega))
 have HS := zab (sumX_key1 sg 191 _ wen_key (fun _ => 1) _ (by rw [bz]; omega) (fun x W _ => one_key sg x W) hW)
 have HW := zab (wh0_key gf lb hf hfs hc w)
 have HB := zab hbw
 clear hof hseq hW b1 b2 hbw bz eg eh
 go_enter Tryz.func150, Tryz.ntmps150
 go_wp2_with (first
  | (go_at_call 144; refine (ud HW).mono ?_; rintro e w1 ⟨rfl, rfl⟩)
  | (go_at_call 194; refine (ud HS).mono ?_; rintro e w2 ⟨ys, ⟨xs, hS, rfl⟩, rfl, hb2⟩; have HB2 := zab hb2; have HHS := zab hS; clear hb2 hS))
 go_ret
 have hlen := Nat.le_trans (filter_len p xs) (hN xs (ud HHS))
 refine ⟨xs, ud HHS, by (first | rw [wsum_ones _ hlen] | rw [wsum_ones _ (by rw [List.length_unattach]; exact hlen), List.length_unattach]); rfl, (ud HB).trans ((ud HB2).mono (ud HB).size)⟩
structure zda (w : World) (s : Nat) (c : Cf) (tv : Value) (lb gb : Nat) (Gl : List (Sg × Unit)) (L : LV) : Prop where
 head : w.heap[s]? = some (.cells #[int i64 c.s, int i64 c.le, int i64 c.la, int i64 c.wi, int i64 c.ke, int i64 c.qu, tv, .map (some lb), .map (some gb)] 140 (0, 0))
 trow : w.ownsRow 0 66 3 tv c.n (row3 c.n c.F c.W c.K)
 live : zeu w lb L
 gone : zce goneM w gb Gl
 apart : gb ≠ lb
structure HeadAt (w : World) (s : Nat) (c : Cf) (tv : Value) (lb gb : Nat) : Prop where
 head : w.heap[s]? = some (.cells #[int i64 c.s, int i64 c.le, int i64 c.la, int i64 c.wi, int i64 c.ke, int i64 c.qu, tv, .map (some lb), .map (some gb)] 140 (0, 0))
 trow : w.ownsRow 0 66 3 tv c.n (row3 c.n c.F c.W c.K)
theorem zda.hd {w : World} {s : Nat} {c : Cf} {tv : Value} {lb gb : Nat} {Gl : List (Sg × Unit)} {L : LV} (h : zda w s c tv lb gb Gl L) : HeadAt w s c tv lb gb := ⟨h.head, h.trow⟩
theorem HeadAt.lt {w : World} {s : Nat} {c : Cf} {tv : Value} {lb gb : Nat} (h : HeadAt w s c tv lb gb) : s < w.heap.size := zaa h.head
theorem HeadAt.kept {f : Nat -> Prop} {w w' : World} {s : Nat} {c : Cf} {tv : Value} {lb gb : Nat} (h : HeadAt w s c tv lb gb) (hk : zan f w w') (h1 : ¬ f s) (h2 : ∀ k, tv.ownBlock = some k -> ¬ f k) : HeadAt w' s c tv lb gb := ⟨hk.heap h.head h1, zae h.trow hk h2⟩
theorem HeadAt.later {w w' : World} {s : Nat} {c : Cf} {tv : Value} {lb gb : Nat} (h : HeadAt w s c tv lb gb) (hb : Below w.heap.size w w') : HeadAt w' s c tv lb gb := h.kept (f := fun _ => False) (zan.of_below hb) (fun h => h) (fun _ _ h => h)
theorem HeadAt.cells {w : World} {s : Nat} {c : Cf} {tv : Value} {lb gb : Nat} (h : HeadAt w s c tv lb gb) : w.cell? ⟨s, 0, none⟩ = some (int i64 c.s) /\ w.cell? ⟨s, 1, none⟩ = some (int i64 c.le) /\ w.cell? ⟨s, 2, none⟩ = some (int i64 c.la) /\ w.cell? ⟨s, 3, none⟩ = some (int i64 c.wi) /\ w.cell? ⟨s, 4, none⟩ = some (int i64 c.ke) /\ w.cell? ⟨s, 5, none⟩ = some (int i64 c.qu) /\ w.cell? ⟨s, 6, none⟩ = some tv /\ w.cell? ⟨s, 7, none⟩ = some (.map (some lb)) /\ w.cell? ⟨s, 8, none⟩ = some (.map (some gb)) := by
 refine ⟨?_, ?_, ?_, ?_, ?_, ?_, ?_, ?_, ?_⟩ <;> rw [zac h.head] <;> rfl
def sfoot (s : Nat) (tv : Value) (lb gb : Nat) (k : Nat) : Prop := k = s \/ tv.ownBlock = some k \/ k = lb \/ k = gb
section
variable {w : World} {s : Nat} {c : Cf} {tv : Value} {lb gb : Nat} {Gl : List (Sg × Unit)} {L : LV}
theorem zda.lt (h : zda w s c tv lb gb Gl L) : s < w.heap.size := zaa h.head
theorem zda.kept {f : Nat -> Prop} {w' : World} (h : zda w s c tv lb gb Gl L) (hk : zan f w w') (hn : ∀ k, sfoot s tv lb gb k -> ¬ f k) : zda w' s c tv lb gb Gl L :=
 ⟨hk.heap h.head (hn s (.inl rfl)), zae h.trow hk (fun k hh => hn k (.inr (.inl hh))), h.live.kept hk (hn lb (.inr (.inr (.inl rfl)))), h.gone.kept hk (hn gb (.inr (.inr (.inr rfl)))), h.apart⟩
theorem zda.later {w' : World} (h : zda w s c tv lb gb Gl L) (hb : Below w.heap.size w w') : zda w' s c tv lb gb Gl L :=
 h.kept (f := fun _ => False) (zan.of_below hb) (fun _ _ hh => hh)
theorem zda.cells (h : zda w s c tv lb gb Gl L) : w.cell? ⟨s, 0, none⟩ = some (int i64 c.s) /\ w.cell? ⟨s, 1, none⟩ = some (int i64 c.le) /\ w.cell? ⟨s, 2, none⟩ = some (int i64 c.la) /\ w.cell? ⟨s, 3, none⟩ = some (int i64 c.wi) /\ w.cell? ⟨s, 4, none⟩ = some (int i64 c.ke) /\ w.cell? ⟨s, 5, none⟩ = some (int i64 c.qu) /\ w.cell? ⟨s, 6, none⟩ = some tv /\ w.cell? ⟨s, 7, none⟩ = some (.map (some lb)) /\ w.cell? ⟨s, 8, none⟩ = some (.map (some gb)) := by
 refine ⟨?_, ?_, ?_, ?_, ?_, ?_, ?_, ?_, ?_⟩ <;> rw [zac h.head] <;> rfl
end
set_option maxHeartbeats 1000000 in
theorem use_any (x : SV) (w : World) : Calls Tryz.prog 72 #[.agg #[int i64 x.st, int i64 x.cl.cnt, int i64 x.cl.sum, .int .i32 x.cl.mn, .int .i32 x.cl.mx]] w fun e w' => e = .returned (int i64 (zfn x)) /\ Below w.heap.size w w' := by
 by_cases h : x.st = 1
 ·have hb : (x.st == 1) = true := by simp [h]
  rw [show zfn x = x.cl.cnt from by simp [zfn, h]]
  clear h
  go_enter Tryz.func72, Tryz.ntmps72
  go_wp2_with fail
  go_ret
  exact ⟨rfl, (Below.refl _ _).alloc (Nat.le_refl _) _⟩
 ·have hb : (x.st == 1) = false := by simp [h]
  rw [show zfn x = 2 from by simp [zfn, h]]
  clear h
  go_enter Tryz.func72, Tryz.ntmps72
  go_wp2_with fail
  go_ret
  exact ⟨rfl, (Below.refl _ _).alloc (Nat.le_refl _) _⟩
set_option maxHeartbeats 1000000 in
theorem scount1_any (x : SV) (hb : Nat) (k : Int) (w : World) (hc : w.cell? ⟨hb, 0, none⟩ = some (int i64 k)) (hl : hb < w.heap.size) : Calls Tryz.prog 74 #[.agg #[int i64 x.st, int i64 x.cl.cnt, int i64 x.cl.sum, .int .i32 x.cl.mn, .int .i32 x.cl.mx], .pointer (some ⟨hb, 0, none⟩)] w fun e w' => e = .returned (.bool (x.st == k)) /\ Below w.heap.size w w' := by
 go_enter Tryz.func74, Tryz.ntmps74
 go_wp2_with fail
 go_ret
 exact ⟨rfl, (Below.refl _ _).alloc (Nat.le_refl _) _⟩
theorem wsum_live {L : LV} {ps : List (Sg × SV)} (f : SV -> Int) (h : ps.Perm L) (hs : i64B (zcx (L.map (fun p => f p.2)))) : wsum ((ps.map (fun p : Sg × SV => p.2)).map f) = zcx (L.map (fun p => f p.2)) := by
 have e : zcx ((ps.map (fun p : Sg × SV => p.2)).map f) = zcx (L.map (fun p => f p.2)) := by
  rw [List.map_map]; exact sumI_perm (h.map _)
 rw [<- e]; apply wsum_small; rw [e]; exact hs
theorem count_live {L : LV} {ps : List (Sg × SV)} (k : Int) (h : ps.Perm L) : (((ps.map (fun p : Sg × SV => p.2)).filter (fun x => x.st == k)).length : Int) = zcv L k := by
 unfold zcv
 have e : zcx (L.map (fun p => isSt k p.2)) = zcx (ps.map (fun p => isSt k p.2)) := (sumI_perm (h.map _)).symm
 rw [e]
 induction ps generalizing L with
 | nil => rfl
 | cons p ps ih =>
  have ih' := ih (List.Perm.refl ps) rfl
  simp only [List.map_cons, List.filter_cons, zcx]
  unfold isSt at *
  by_cases hp : p.2.st = k
  ·rw [if_pos (by simpa using hp), if_pos hp, List.length_cons, <- ih']; omega
  ·rw [if_neg (by simpa using hp), if_neg hp, <- ih']; omega
set_option maxHeartbeats 1000000 in
theorem pused_any {w : World} {s : Nat} {c : Cf} {tv : Value} {lb gb : Nat} {Gl : List (Sg × Unit)} {L : LV} (h : zda w s c tv lb gb Gl L) (hs : i64B (zby L)) :
  Calls Tryz.prog 33 #[.pointer (some ⟨s, 0, none⟩)] w fun e w' => e = .returned (int i64 (zby L)) /\ Below w.heap.size w w' := by
 have hsl := h.lt
 obtain ⟨-, -, -, -, -, -, -, c7, -⟩ := h.cells
 have hb0 : ∀ o, Below w.heap.size w (w.alloc o) := fun o => (Below.refl _ _).alloc (Nat.le_refl _) _
 have HV := zab (it_live0 lb w)
 have HS := zab (sumX_use 125 #[.pointer (some ⟨w.heap.size, 0, none⟩)] en_live zfn (w.alloc (.cells #[.map (some lb)] 135)) (Nat.le_refl _)
  (fun x W hW => use_any x W)
  (it_live (ex := fun _ => False) w.heap.size lb L _ (fun e => e) (by simp) (by rw [zac (zap _ _)]; rfl) (live_map.1 (h.live.later (hb0 _)))))
 have HL := zab hs
 clear h hs
 go_enter Tryz.func33, Tryz.ntmps33
 go_wp2_with fail
 refine (ud HV).mono ?_
 rintro e w1 ⟨rfl, rfl⟩
 go_wp2_with fail
 refine (ud HS).mono ?_
 rintro e w1 ⟨xs, ⟨ps, hp, rfl⟩, rfl, hb1⟩
 have hw := wsum_live zfn hp (ud HL)
 rw [hw]
 clear hw
 go_wp2_with fail
 go_ret
 exact ⟨rfl, (hb0 _).trans (hb1.mono (hb0 _).size)⟩
theorem scen : ∀ args w, (callFunc 74 args).run Tryz.prog w = .ok (.enter 74 args) w := enters_of Tryz.func74 (by kernel_rfl) rfl
set_option maxHeartbeats 1000000 in
theorem pcount_any {w : World} {s : Nat} {c : Cf} {tv : Value} {lb gb : Nat} {Gl : List (Sg × Unit)} {L : LV} (h : zda w s c tv lb gb Gl L) (k : Int) (hk : (k == 4) = false) (hs : L.length <= 100000) :
  Calls Tryz.prog 34 #[.pointer (some ⟨s, 0, none⟩), int i64 k] w fun e w' => e = .returned (int i64 (zcv L k)) /\ Below w.heap.size w w' := by
 have hsl := h.lt
 obtain ⟨-, -, -, -, -, -, -, c7, -⟩ := h.cells
 have hb0 : ∀ o, Below w.heap.size w (w.alloc o) := fun o => (Below.refl _ _).alloc (Nat.le_refl _) _
 obtain ⟨y0, y1, hbw, yz⟩ := box2 w (.cells #[int i64 k] 87) (.cells #[.map (some lb)] 135)
 have HV := zab (it_live0 lb (w.alloc (.cells #[int i64 k] 87)))
 have HS := zab (cnt_seg 125 #[.pointer (some ⟨w.heap.size + 1, 0, none⟩)] en_live 74 #[] #[.pointer (some ⟨w.heap.size, 0, none⟩)] scen (fun x => x.st == k) _
  (fun x W hW => scount1_any x w.heap.size k W (by rw [zac ((hW.block _ (zaa y0)).trans y0)]; rfl) (Nat.lt_of_lt_of_le (zaa y0) hW.size))
  (it_live (ex := fun _ => False) (w.heap.size + 1) lb L _ (fun e => e) (by rw [yz]; omega) (by rw [zac y1]; rfl) (live_map.1 (h.live.later hbw))) (fun xs ⟨ps, hp, e⟩ => by rw [e, List.length_map, hp.length_eq]; omega))
 have HBW := zab hbw
 have c7' := ((hb0 (.cells #[int i64 k] 87)).cell (p := ⟨s, 7, none⟩) hsl).trans c7
 clear h hs y0 y1 hbw yz
 go_enter Tryz.func34, Tryz.ntmps34
 go_wp2_with fail
 refine (ud HV).mono ?_
 rintro e w1 ⟨rfl, rfl⟩
 go_wp2_with fail
 refine (ud HS).mono ?_
 rintro e w1 ⟨xs, ⟨ps, hp, rfl⟩, rfl, hb1⟩
 rw [count_live k hp]
 go_wp2_with fail
 go_ret
 exact ⟨rfl, (ud HBW).trans (hb1.mono (ud HBW).size)⟩
set_option maxHeartbeats 1000000 in
theorem pgone_any {w : World} {s : Nat} {c : Cf} {tv : Value} {lb gb : Nat} {Gl : List (Sg × Unit)} {L : LV} (h : zda w s c tv lb gb Gl L) :
  Calls Tryz.prog 34 #[.pointer (some ⟨s, 0, none⟩), int i64 4] w fun e w' => e = .returned (int i64 Gl.length) /\ Below w.heap.size w w' := by
 have hsl := h.lt
 obtain ⟨-, -, -, -, -, -, -, -, c8⟩ := h.cells
 have hb0 : ∀ o, Below w.heap.size w (w.alloc o) := fun o => (Below.refl _ _).alloc (Nat.le_refl _) _
 have hlen : (Builtin.len_ #[138] 3 #[.map (some gb)]).run Tryz.prog (w.alloc (.cells #[int i64 4] 87)) = .ok (int i64 Gl.length) (w.alloc (.cells #[int i64 4] 87)) := run_lenM gone_ok (h.gone.later (hb0 _)) _
 clear h
 go_enter Tryz.func34, Tryz.ntmps34
 go_wp2_with fail
 go_ret
 exact ⟨rfl, hb0 _⟩
theorem ltiers_any (c : Cf) (a : Option Addr) (cap : Nat) (w : World) : Calls Tryz.prog 169 #[.agg #[int i64 c.s, int i64 c.le, int i64 c.la, int i64 c.wi, int i64 c.ke, int i64 c.qu, .slice a c.n cap]] w fun e w' => e = .returned (int i64 c.n) /\ Below w.heap.size w w' := by
 go_enter Tryz.func169, Tryz.ntmps169
 go_wp2_with fail
 go_ret
 exact ⟨rfl, (Below.refl _ _).alloc (Nat.le_refl _) _⟩
theorem llag_any (c : Cf) (a : Option Addr) (cap : Nat) (w : World) : Calls Tryz.prog 114 #[.agg #[int i64 c.s, int i64 c.le, int i64 c.la, int i64 c.wi, int i64 c.ke, int i64 c.qu, .slice a c.n cap]] w fun e w' => e = .returned (int i64 c.la) /\ Below w.heap.size w w' := by
 go_enter Tryz.func114, Tryz.ntmps114
 go_wp2_with fail
 go_ret
 exact ⟨rfl, (Below.refl _ _).alloc (Nat.le_refl _) _⟩
theorem lquota_any (c : Cf) (a : Option Addr) (cap : Nat) (w : World) : Calls Tryz.prog 75 #[.agg #[int i64 c.s, int i64 c.le, int i64 c.la, int i64 c.wi, int i64 c.ke, int i64 c.qu, .slice a c.n cap]] w fun e w' => e = .returned (int i64 c.qu) /\ Below w.heap.size w w' := by
 go_enter Tryz.func75, Tryz.ntmps75
 go_wp2_with fail
 go_ret
 exact ⟨rfl, (Below.refl _ _).alloc (Nat.le_refl _) _⟩
set_option maxHeartbeats 1000000 in
theorem lwindow_any (c : Cf) (hc : c.ok) (a : Option Addr) (cap : Nat) (t tm : Int) (ht1 : -1 <= t) (ht2 : t < c.n) (htm : 0 <= tm /\ tm <= 100000) (w : World) (hts : TS w a c.n c.F c.W c.K) : Calls Tryz.prog 205 #[.agg #[int i64 c.s, int i64 c.le, int i64 c.la, int i64 c.wi, int i64 c.ke, int i64 c.qu, .slice a c.n cap], int i64 t, int i64 tm] w fun e w' => e = .returned (int i64 (tm / c.width t)) /\ Below w.heap.size w w' := by
 have hb0 : ∀ o, Below w.heap.size w (w.alloc o) := fun o => (Below.refl _ _).alloc (Nat.le_refl _) _
 obtain ⟨hw1, hw2⟩ := hc.width ht1 ht2
 obtain ⟨hm1, hm2⟩ := htm
 have hn4 := hc.n4
 have HW : Hid (zbr c.wi c.W t = c.width t) := rfl
 have HWC := fun o => zab (width_any c.s c.le c.la c.wi c.ke c.qu a c.n cap c.F c.W c.K t ht1 ht2 hn4 (w.alloc o) (hts.below (hb0 o)))
 go_enter Tryz.func205, Tryz.ntmps205
 go_wp2_with fail
 refine (ud (HWC _)).mono ?_
 rintro e w1 ⟨rfl, hb1⟩
 rw [ud HW]
 go_wp2_with fail
 go_ret
 exact ⟨rfl, (hb0 _).trans (hb1.mono (hb0 _).size)⟩
set_option maxHeartbeats 1000000 in
theorem lend_any (c : Cf) (hc : c.ok) (a : Option Addr) (cap : Nat) (t win : Int) (ht1 : -1 <= t) (ht2 : t < c.n) (hwn : 0 <= win /\ win <= 100000) (w : World) (hts : TS w a c.n c.F c.W c.K) : Calls Tryz.prog 170 #[.agg #[int i64 c.s, int i64 c.le, int i64 c.la, int i64 c.wi, int i64 c.ke, int i64 c.qu, .slice a c.n cap], int i64 t, int i64 win] w fun e w' => e = .returned (int i64 ((win + 1) * c.width t)) /\ Below w.heap.size w w' := by
 have hb0 : ∀ o, Below w.heap.size w (w.alloc o) := fun o => (Below.refl _ _).alloc (Nat.le_refl _) _
 obtain ⟨hw1, hw2⟩ := hc.width ht1 ht2
 obtain ⟨hm1, hm2⟩ := hwn
 have hn4 := hc.n4
 have HW : Hid (zbr c.wi c.W t = c.width t) := rfl
 have HWC := fun o => zab (width_any c.s c.le c.la c.wi c.ke c.qu a c.n cap c.F c.W c.K t ht1 ht2 hn4 (w.alloc o) (hts.below (hb0 o)))
 have hmul : 0 <= (win + 1) * c.width t /\ (win + 1) * c.width t <= 1000000000 := by
  constructor
  ·exact Int.mul_nonneg (by omega) (by omega)
  ·have := Int.mul_le_mul (show win + 1 <= 100001 by omega) hw2 (by omega) (by omega); omega
 obtain ⟨hl1, hl2⟩ := hmul
 have hw64 : wrap64 ((win + 1) * c.width t) = (win + 1) * c.width t := by unfold wrap64; omega
 go_enter Tryz.func170, Tryz.ntmps170
 go_wp2_with fail
 refine (ud (HWC _)).mono ?_
 rintro e w1 ⟨rfl, hb1⟩
 rw [ud HW]
 go_wp2_with fail
 go_ret
 exact ⟨by first | rfl | rw [hw64], (hb0 _).trans (hb1.mono (hb0 _).size)⟩
set_option maxHeartbeats 1000000 in
theorem lhas_any (c : Cf) (hc : c.ok) (a : Option Addr) (cap : Nat) (t : Int) (w : World) : Calls Tryz.prog 117 #[.agg #[int i64 c.s, int i64 c.le, int i64 c.la, int i64 c.wi, int i64 c.ke, int i64 c.qu, .slice a c.n cap], int i64 t] w fun e w' => e = .returned (.bool (inB t (-1) ((c.n : Int) - 1))) /\ Below w.heap.size w w' := by
 have hb0 : ∀ o, Below w.heap.size w (w.alloc o) := fun o => (Below.refl _ _).alloc (Nat.le_refl _) _
 have hn4 := hc.n4
 have hn1 := hc.n1
 have HT := fun o => zab (ltiers_any c a cap (w.alloc o))
 go_enter Tryz.func117, Tryz.ntmps117
 go_wp2_with fail
 refine (ud (HT _)).mono ?_
 rintro e w1 ⟨rfl, hb1⟩
 go_wp2_with (go_at_call 77; refine (zcp _ _ _ _).mono ?_; rintro e w2 ⟨rfl, rfl⟩)
 go_ret
 exact ⟨rfl, (hb0 _).trans (hb1.mono (hb0 _).size)⟩
set_option maxHeartbeats 1000000 in
theorem pkey_any {w : World} {s : Nat} {c : Cf} {tv : Value} {lb gb : Nat} (h : HeadAt w s c tv lb gb) (hc : c.ok) (t ser tm : Int) (ht1 : -1 <= t) (ht2 : t < c.n) (htm : 0 <= tm /\ tm <= 100000) :
  Calls Tryz.prog 168 #[.pointer (some ⟨s, 0, none⟩), int i64 t, int i64 ser, int i64 tm] w fun e w' => e = .returned (.agg #[int i64 t, int i64 ser, int i64 (tm / c.width t)]) /\ Below w.heap.size w w' := by
 obtain ⟨a, cap, rfl⟩ := zah h.trow
 have hsl := h.lt
 have hb0 : ∀ o, Below w.heap.size w (w.alloc o) := fun o => (Below.refl _ _).alloc (Nat.le_refl _) _
 have hts := TS.of_owns h.trow
 obtain ⟨c0, c1, c2, c3, c4, c5, c6, -, -⟩ := h.cells
 have HWC := fun o => zab (lwindow_any c hc a cap t tm ht1 ht2 htm (w.alloc o) (hts.below (hb0 o)))
 have B1 := zab (zap w (.cells #[int i64 0, int i64 0, int i64 0] 137))
 have BZ := zab (zbd w (.cells #[int i64 0, int i64 0, int i64 0] 137))
 clear h hts
 go_enter Tryz.func168, Tryz.ntmps168
 go_wp2_with fail
 refine (ud (HWC _)).mono ?_
 rintro e w1 ⟨rfl, hb1⟩
 have e2 := (hb1.block w.heap.size (by rw [ud BZ]; omega)).trans (ud B1)
 have y0 : w1.cell? ⟨w.heap.size, 0, none⟩ = some (int i64 0) := by rw [zac e2]; rfl
 have y1 : w1.cell? ⟨w.heap.size, 1, none⟩ = some (int i64 0) := by rw [zac e2]; rfl
 have y2 : w1.cell? ⟨w.heap.size, 2, none⟩ = some (int i64 0) := by rw [zac e2]; rfl
 have y3 := fun j => zaz e2 j
 have E2 := zab e2
 clear e2
 go_wp2_with fail
 have hf := set3 (ud E2) (int i64 t) (int i64 ser) (int i64 (tm / c.width t))
 have hb3 : Below w.heap.size w1 (((w1.setCell ⟨w.heap.size, 0, none⟩ (int i64 t)).setCell ⟨w.heap.size, 1, none⟩ (int i64 ser)).setCell ⟨w.heap.size, 2, none⟩ (int i64 (tm / c.width t))) := (((Below.refl _ _).setCell (p := ⟨w.heap.size, 0, none⟩) (Nat.le_refl _) _).setCell (p := ⟨w.heap.size, 1, none⟩) (Nat.le_refl _) _).setCell (p := ⟨w.heap.size, 2, none⟩) (Nat.le_refl _) _
 refine bodyPost_ret (v := .agg #[int i64 t, int i64 ser, int i64 (tm / c.width t)]) (results_cell_row Tryz.results168 _ _ w.heap.size _ _ _ _ rfl hf Tryz.underlying137 rfl (by kernel_rfl)) rfl ?_
 exact ⟨rfl, (hb0 _).trans ((hb1.mono (hb0 _).size).trans hb3)⟩
set_option maxHeartbeats 1000000 in
theorem lkeep0_any (c : Cf) (hc : c.ok) (a : Option Addr) (cap : Nat) (t : Int) (ht1 : -1 <= t) (ht2 : t < c.n) (w : World) (hts : TS w a c.n c.F c.W c.K) : Calls Tryz.prog 193 #[.agg #[int i64 c.s, int i64 c.le, int i64 c.la, int i64 c.wi, int i64 c.ke, int i64 c.qu, .slice a c.n cap], int i64 t] w fun e w' => e = .returned (int i64 (c.keep t)) /\ Below w.heap.size w w' := by
 have hn4 := hc.n4
 have hb0 : ∀ o, Below w.heap.size w (w.alloc o) := fun o => (Below.refl _ _).alloc (Nat.le_refl _) _
 by_cases h : t = -1
 ·subst h
  rw [show c.keep (-1) = c.ke from rfl]
  go_enter Tryz.func193, Tryz.ntmps193
  go_wp2_with fail
  go_ret
  exact ⟨rfl, hb0 _⟩
 ·obtain ⟨k, rfl⟩ : ∃ k : Nat, t = k := ⟨t.toNat, by omega⟩
  have hk : k < c.n := by omega
  obtain ⟨b, off, rfl, hbz, hcs⟩ := hts.below (hb0 (.cells #[int i64 c.s, int i64 c.le, int i64 c.la, int i64 c.wi, int i64 c.ke, int i64 c.qu, .slice a c.n cap] 27)) (by omega)
  obtain ⟨-, -, x2⟩ := hcs k hk
  have hkn : (k : Int) < c.n := by omega
  have he : ((k : Int) == -1) = false := by simp
  have HK : Hid (c.keep (k : Int) = c.K k) := by show c.keep (k : Int) = c.K k; unfold Cf.keep; rw [if_neg (by omega)]; simp
  clear hcs hts
  rw [ud HK]
  go_enter Tryz.func193, Tryz.ntmps193
  go_wp2_with fail
  go_ret
  exact ⟨rfl, hb0 _⟩
set_option maxHeartbeats 1000000 in
theorem lclosed_any (c : Cf) (hc : c.ok) (a : Option Addr) (cap : Nat) (t win now : Int) (ht1 : -1 <= t) (ht2 : t < c.n) (hwn : 0 <= win /\ win <= 100000) (hnow : 0 <= now /\ now <= 100000) (w : World) (hts : TS w a c.n c.F c.W c.K) : Calls Tryz.prog 118 #[.agg #[int i64 c.s, int i64 c.le, int i64 c.la, int i64 c.wi, int i64 c.ke, int i64 c.qu, .slice a c.n cap], int i64 t, int i64 win, int i64 now] w fun e w' => e = .returned (.bool (decide ((win + 1) * c.width t <= now - c.la))) /\ Below w.heap.size w w' := by
 have hb0 : ∀ o, Below w.heap.size w (w.alloc o) := fun o => (Below.refl _ _).alloc (Nat.le_refl _) _
 obtain ⟨hl1, hl2⟩ := hc.la
 have HC := zab hc
 have hwn' := hwn
 obtain ⟨n1, n2⟩ := hnow
 have hmul : 0 <= (win + 1) * c.width t /\ (win + 1) * c.width t <= 1000000000 := by
  obtain ⟨hw1, hw2⟩ := hc.width ht1 ht2
  constructor
  ·exact Int.mul_nonneg (by omega) (by omega)
  ·have := Int.mul_le_mul (show win + 1 <= 100001 by omega) hw2 (by omega) (by omega); omega
 have HWN := zab hwn
 obtain ⟨v, hv⟩ : ∃ v, (win + 1) * c.width t = v := ⟨_, rfl⟩
 have HEN : ∀ W, Below w.heap.size w W -> Hid (Calls Tryz.prog 170 #[.agg #[int i64 c.s, int i64 c.le, int i64 c.la, int i64 c.wi, int i64 c.ke, int i64 c.qu, .slice a c.n cap], int i64 t, int i64 win] W fun e w' => e = .returned (int i64 v) /\ Below W.heap.size W w') := fun W hW => by have h := lend_any c hc a cap t win ht1 ht2 hwn W (hts.below hW); rw [hv] at h; exact h
 rw [hv] at hmul ⊢
 clear hc hwn hwn' hv
 have hba := hb0 (.cells #[int i64 c.s, int i64 c.le, int i64 c.la, int i64 c.wi, int i64 c.ke, int i64 c.qu, .slice a c.n cap] 80)
 have b1 := zap w (.cells #[int i64 c.s, int i64 c.le, int i64 c.la, int i64 c.wi, int i64 c.ke, int i64 c.qu, .slice a c.n cap] 80)
 have bz := zbd w (.cells #[int i64 c.s, int i64 c.le, int i64 c.la, int i64 c.wi, int i64 c.ke, int i64 c.qu, .slice a c.n cap] 80)
 have x0 : (w.alloc (.cells #[int i64 c.s, int i64 c.le, int i64 c.la, int i64 c.wi, int i64 c.ke, int i64 c.qu, .slice a c.n cap] 80)).cell? ⟨w.heap.size, 0, none⟩ = some (int i64 c.s) := by rw [zac b1]; rfl
 have x1 : (w.alloc (.cells #[int i64 c.s, int i64 c.le, int i64 c.la, int i64 c.wi, int i64 c.ke, int i64 c.qu, .slice a c.n cap] 80)).cell? ⟨w.heap.size, 1, none⟩ = some (int i64 c.le) := by rw [zac b1]; rfl
 have x2 : (w.alloc (.cells #[int i64 c.s, int i64 c.le, int i64 c.la, int i64 c.wi, int i64 c.ke, int i64 c.qu, .slice a c.n cap] 80)).cell? ⟨w.heap.size, 2, none⟩ = some (int i64 c.la) := by rw [zac b1]; rfl
 have x3 : (w.alloc (.cells #[int i64 c.s, int i64 c.le, int i64 c.la, int i64 c.wi, int i64 c.ke, int i64 c.qu, .slice a c.n cap] 80)).cell? ⟨w.heap.size, 3, none⟩ = some (int i64 c.wi) := by rw [zac b1]; rfl
 have x4 : (w.alloc (.cells #[int i64 c.s, int i64 c.le, int i64 c.la, int i64 c.wi, int i64 c.ke, int i64 c.qu, .slice a c.n cap] 80)).cell? ⟨w.heap.size, 4, none⟩ = some (int i64 c.ke) := by rw [zac b1]; rfl
 have x5 : (w.alloc (.cells #[int i64 c.s, int i64 c.le, int i64 c.la, int i64 c.wi, int i64 c.ke, int i64 c.qu, .slice a c.n cap] 80)).cell? ⟨w.heap.size, 5, none⟩ = some (int i64 c.qu) := by rw [zac b1]; rfl
 have x6 : (w.alloc (.cells #[int i64 c.s, int i64 c.le, int i64 c.la, int i64 c.wi, int i64 c.ke, int i64 c.qu, .slice a c.n cap] 80)).cell? ⟨w.heap.size, 6, none⟩ = some (.slice a c.n cap) := by rw [zac b1]; rfl
 have HBA := zab hba
 have HTS := zab hts
 have BZ := zab bz
 clear b1 bz hba hts hb0
 go_enter Tryz.func118, Tryz.ntmps118
 go_wp2_with fail
 have q4 : w.heap.size < w.heap.size + 1 := by omega
 generalize (w.alloc (.cells #[int i64 c.s, int i64 c.le, int i64 c.la, int i64 c.wi, int i64 c.ke, int i64 c.qu, .slice a c.n cap] 80)) = X at *
 generalize hN : w.heap.size + 1 = N at *
 have hne : Nonempty (zaf N X) := zaf.some _ _
 have hlc := fun (u : zaf N X) b o h => u.cell b o h
 have hNX : N <= X.heap.size := by rw [ud BZ]; exact Nat.le_refl _
 have HNX := zab hNX
 have HNL : Hid (w.heap.size <= N) := by show w.heap.size <= N; omega
 clear hNX hN
 refine zad N (by kernel_rfl) (by kernel_rfl) ?_
 repeat (go_big_quiet_step (first
  | (go_at_call 170; exact Calls.later (ud HNX) (ud (HEN _ ((ud HBA).trans (Below.mono (Subtype.property _) (ud HNL))))))
  | (go_at_call 114; exact Calls.later (ud HNX) (llag_any c a cap _))))
 refine wpQuiet_nil ?_
 rintro ⟨w1, hb1⟩
 clear hlc hne
 dsimp only
 go_wp2_with fail
 go_ret
 exact ⟨rfl, (ud HBA).trans (hb1.mono (ud HNL))⟩
set_option maxHeartbeats 1000000 in
theorem lkept_any (c : Cf) (hc : c.ok) (a : Option Addr) (cap : Nat) (t win : Int) (ht1 : -1 <= t) (ht2 : t < c.n) (hwn : 0 <= win /\ win <= 100000) (w : World) (hts : TS w a c.n c.F c.W c.K) : Calls Tryz.prog 149 #[.agg #[int i64 c.s, int i64 c.le, int i64 c.la, int i64 c.wi, int i64 c.ke, int i64 c.qu, .slice a c.n cap], int i64 t, int i64 win] w fun e w' => e = .returned (int i64 ((win + 1) * c.width t + c.keep t)) /\ Below w.heap.size w w' := by
 have hb0 : ∀ o, Below w.heap.size w (w.alloc o) := fun o => (Below.refl _ _).alloc (Nat.le_refl _) _
 have HC := zab hc
 obtain ⟨k1, k2⟩ := hc.keeps ht1 ht2
 have hmul : 0 <= (win + 1) * c.width t /\ (win + 1) * c.width t <= 1000000000 := by
  obtain ⟨hw1, hw2⟩ := hc.width ht1 ht2
  constructor
  ·exact Int.mul_nonneg (by omega) (by omega)
  ·have := Int.mul_le_mul (show win + 1 <= 100001 by omega) hw2 (by omega) (by omega); omega
 have HWN := zab hwn
 obtain ⟨v, hv⟩ : ∃ v, (win + 1) * c.width t = v := ⟨_, rfl⟩
 have HEN : ∀ W, Below w.heap.size w W -> Hid (Calls Tryz.prog 170 #[.agg #[int i64 c.s, int i64 c.le, int i64 c.la, int i64 c.wi, int i64 c.ke, int i64 c.qu, .slice a c.n cap], int i64 t, int i64 win] W fun e w' => e = .returned (int i64 v) /\ Below W.heap.size W w') := fun W hW => by have h := lend_any c hc a cap t win ht1 ht2 hwn W (hts.below hW); rw [hv] at h; exact h
 rw [hv] at hmul ⊢
 clear hc hwn hv
 have hba := hb0 (.cells #[int i64 c.s, int i64 c.le, int i64 c.la, int i64 c.wi, int i64 c.ke, int i64 c.qu, .slice a c.n cap] 80)
 have b1 := zap w (.cells #[int i64 c.s, int i64 c.le, int i64 c.la, int i64 c.wi, int i64 c.ke, int i64 c.qu, .slice a c.n cap] 80)
 have bz := zbd w (.cells #[int i64 c.s, int i64 c.le, int i64 c.la, int i64 c.wi, int i64 c.ke, int i64 c.qu, .slice a c.n cap] 80)
 have x0 : (w.alloc (.cells #[int i64 c.s, int i64 c.le, int i64 c.la, int i64 c.wi, int i64 c.ke, int i64 c.qu, .slice a c.n cap] 80)).cell? ⟨w.heap.size, 0, none⟩ = some (int i64 c.s) := by rw [zac b1]; rfl
 have x1 : (w.alloc (.cells #[int i64 c.s, int i64 c.le, int i64 c.la, int i64 c.wi, int i64 c.ke, int i64 c.qu, .slice a c.n cap] 80)).cell? ⟨w.heap.size, 1, none⟩ = some (int i64 c.le) := by rw [zac b1]; rfl
 have x2 : (w.alloc (.cells #[int i64 c.s, int i64 c.le, int i64 c.la, int i64 c.wi, int i64 c.ke, int i64 c.qu, .slice a c.n cap] 80)).cell? ⟨w.heap.size, 2, none⟩ = some (int i64 c.la) := by rw [zac b1]; rfl
 have x3 : (w.alloc (.cells #[int i64 c.s, int i64 c.le, int i64 c.la, int i64 c.wi, int i64 c.ke, int i64 c.qu, .slice a c.n cap] 80)).cell? ⟨w.heap.size, 3, none⟩ = some (int i64 c.wi) := by rw [zac b1]; rfl
 have x4 : (w.alloc (.cells #[int i64 c.s, int i64 c.le, int i64 c.la, int i64 c.wi, int i64 c.ke, int i64 c.qu, .slice a c.n cap] 80)).cell? ⟨w.heap.size, 4, none⟩ = some (int i64 c.ke) := by rw [zac b1]; rfl
 have x5 : (w.alloc (.cells #[int i64 c.s, int i64 c.le, int i64 c.la, int i64 c.wi, int i64 c.ke, int i64 c.qu, .slice a c.n cap] 80)).cell? ⟨w.heap.size, 5, none⟩ = some (int i64 c.qu) := by rw [zac b1]; rfl
 have x6 : (w.alloc (.cells #[int i64 c.s, int i64 c.le, int i64 c.la, int i64 c.wi, int i64 c.ke, int i64 c.qu, .slice a c.n cap] 80)).cell? ⟨w.heap.size, 6, none⟩ = some (.slice a c.n cap) := by rw [zac b1]; rfl
 have HBA := zab hba
 have HTS := zab hts
 have BZ := zab bz
 clear b1 bz hba hts hb0
 go_enter Tryz.func149, Tryz.ntmps149
 go_wp2_with fail
 have q4 : w.heap.size < w.heap.size + 1 := by omega
 generalize (w.alloc (.cells #[int i64 c.s, int i64 c.le, int i64 c.la, int i64 c.wi, int i64 c.ke, int i64 c.qu, .slice a c.n cap] 80)) = X at *
 generalize hN : w.heap.size + 1 = N at *
 have hne : Nonempty (zaf N X) := zaf.some _ _
 have hlc := fun (u : zaf N X) b o h => u.cell b o h
 have hNX : N <= X.heap.size := by rw [ud BZ]; exact Nat.le_refl _
 have HNX := zab hNX
 have HNL : Hid (w.heap.size <= N) := by show w.heap.size <= N; omega
 clear hNX hN
 refine zad N (by kernel_rfl) (by kernel_rfl) ?_
 repeat (go_big_quiet_step (first
  | (go_at_call 170; exact Calls.later (ud HNX) (ud (HEN _ ((ud HBA).trans (Below.mono (Subtype.property _) (ud HNL))))))
  | (go_at_call 193; exact Calls.later (ud HNX) (lkeep0_any c (ud HC) a cap t ht1 ht2 _ ((ud HTS).below ((ud HBA).trans (Below.mono (Subtype.property _) (ud HNL))))))))
 refine wpQuiet_nil ?_
 rintro ⟨w1, hb1⟩
 clear hlc hne
 dsimp only
 go_wp2_with fail
 go_ret
 exact ⟨rfl, (ud HBA).trans (hb1.mono (ud HNL))⟩
theorem results_tmp_row {P : Program} {fn : Func} {p u : Tmp} {ty : TypeId} (h : fn.results = #[.tmp u, .cell p ty]) (tmps : Array Value) (w : World) (g : Nat) (t : TypeId) (cs : Array Value) (fr : Nat × Nat) (d : TypeDesc) (x : Value)
  (hx : tmps.getD u undef = x) (hp : tmps.getD p undef = .pointer (some ⟨g, 0, none⟩)) (hg : w.heap[g]? = some (.cells cs t fr))
  (hu : P.underlying ty = some d) (hd : (match d with | .struct _ | .array _ _ => true | _ => false) = true) (hi : (P.info? ty).map (·.size) = some cs.size) :
  (results fn tmps).run P w = .ok (.tuple #[x, .agg cs]) w := by
 have h1 : (results fn tmps).run P w = ((asAddr (tmps.getD p undef)).run P w).andThen fun a w₁ => ((loadVar ty a).run P w₁).andThen fun v w₂ => .ok (.tuple #[tmps.getD u undef, v]) w₂ := by
  simp only [results, h]
  simp [Sem.run_bind, Result.andThen]
 rw [h1, hp, hx]
 simp [asAddr, run_loadVar_row w g t ty cs fr d hg hu hd hi, Result.andThen]
theorem set4d {w : World} {g : Nat} {a b c d : Value} {t : TypeId} {fr : Nat × Nat} (h : w.heap[g]? = some (.cells #[a, b, c, d] t fr)) (x y z u : Value) : (((((w.setCell ⟨g, 0, none⟩ x).setCell ⟨g, 1, none⟩ y).setCell ⟨g, 2, none⟩ z).setCell ⟨g, 3, none⟩ u).drew).heap[g]? = some (.cells #[x, y, z, u] t fr) := by
 have := zbz (i := 3) (zbz (i := 2) (zbz (i := 1) (zbz (i := 0) h x) y) z) u
 exact this
theorem below4d {B : Nat} {w : World} {g : Nat} (h : B <= g) (x y z u : Value) : Below B w (((((w.setCell ⟨g, 0, none⟩ x).setCell ⟨g, 1, none⟩ y).setCell ⟨g, 2, none⟩ z).setCell ⟨g, 3, none⟩ u).drew) :=
 (((((Below.refl _ _).setCell (p := ⟨g, 0, none⟩) h _).setCell (p := ⟨g, 1, none⟩) h _).setCell (p := ⟨g, 2, none⟩) h _).setCell (p := ⟨g, 3, none⟩) h _).drew
theorem below4 {B : Nat} {w : World} {g : Nat} (h : B <= g) (x y z u : Value) : Below B w ((((w.setCell ⟨g, 0, none⟩ x).setCell ⟨g, 1, none⟩ y).setCell ⟨g, 2, none⟩ z).setCell ⟨g, 3, none⟩ u) :=
 ((((Below.refl _ _).setCell (p := ⟨g, 0, none⟩) h _).setCell (p := ⟨g, 1, none⟩) h _).setCell (p := ⟨g, 2, none⟩) h _).setCell (p := ⟨g, 3, none⟩) h _
theorem look_st (L : LV) (s : Sg) : lookV false (svVal ⟨0, zds⟩) L s = svVal (stL L s) := by
 unfold lookV stL; cases getL L s <;> rfl
theorem lookNG {w X : World} {gb : Nat} {Gl : List (Sg × Unit)} {s : Sg} (hn : zbm Gl s = none) (hg : zce goneM w gb Gl) (hb : Below w.heap.size w X) (hs : s.wf) : (Instr.lookup 138 (.map (some gb)) (.agg #[int i64 s.t, int i64 s.ser, int i64 s.win]) true).run Tryz.prog X = .ok (.tuple #[.agg #[], .bool false]) X := by
 have h := run_lookM gone_ok true (hg.later hb) hs
 rw [hn] at h
 exact h
theorem lookYG {w X : World} {gb : Nat} {Gl : List (Sg × Unit)} {s : Sg} (hn : zbm Gl s = some ()) (hg : zce goneM w gb Gl) (hb : Below w.heap.size w X) (hs : s.wf) : (Instr.lookup 138 (.map (some gb)) (.agg #[int i64 s.t, int i64 s.ser, int i64 s.win]) true).run Tryz.prog X = .ok (.tuple #[.agg #[], .bool true]) X := by
 have h := run_lookM gone_ok true (hg.later hb) hs
 rw [hn] at h
 exact h
theorem lookLV {w X : World} {lb : Nat} {L : LV} {s : Sg} {v : SV} (hv : v = stL L s) (hl : zeu w lb L) (hb : Below w.heap.size w X) (hs : s.wf) : (Instr.lookup 135 (.map (some lb)) (.agg #[int i64 s.t, int i64 s.ser, int i64 s.win]) false).run Tryz.prog X = .ok (.agg #[int i64 v.st, int i64 v.cl.cnt, int i64 v.cl.sum, .int .i32 v.cl.mn, .int .i32 v.cl.mx]) X := by
 subst hv
 have := run_look false (hl.later hb) hs
 rw [look_st] at this
 exact this
set_option maxHeartbeats 4000000 in
theorem pfind_live {w : World} {b : Nat} {c : Cf} {tv : Value} {lb gb : Nat} {Gl : List (Sg × Unit)} {L : LV} (h : zda w b c tv lb gb Gl L) (s : Sg) (hs : s.wf) (hng : zbm Gl s = none) :
  Calls Tryz.prog 119 #[.pointer (some ⟨b, 0, none⟩), .agg #[int i64 s.t, int i64 s.ser, int i64 s.win]] w fun e w' => e = .returned (.tuple #[int i64 (stL L s).st, clV (stL L s).cl]) /\ Below w.heap.size w w' := by
 obtain ⟨v, hv⟩ : ∃ v, v = stL L s := ⟨_, rfl⟩
 rw [<- hv]
 have HV := zab hv
 clear hv
 have hsl := h.lt
 obtain ⟨-, -, -, -, -, -, -, c7, c8⟩ := h.cells
 have H := zab h
 obtain ⟨y0, y1, hbw, yz⟩ := box2 w (.cells #[int i64 s.t, int i64 s.ser, int i64 s.win] 137) (.cells #[int i64 0, int i64 0, .int .i32 0, .int .i32 0] 114)
 have HS := zab hs
 have HNG := zab hng
 clear h hs hng
 go_enter Tryz.func119, Tryz.ntmps119
 go_wp2_with fail
 generalize ((w.alloc (.cells #[int i64 s.t, int i64 s.ser, int i64 s.win] 137)).alloc (.cells #[int i64 0, int i64 0, .int .i32 0, .int .i32 0] 114)) = X at *
 have k0 : X.cell? ⟨w.heap.size, 0, none⟩ = some (int i64 s.t) := by rw [zac y0]; rfl
 have k1 : X.cell? ⟨w.heap.size, 1, none⟩ = some (int i64 s.ser) := by rw [zac y0]; rfl
 have k2 : X.cell? ⟨w.heap.size, 2, none⟩ = some (int i64 s.win) := by rw [zac y0]; rfl
 have x7 := (hbw.cell (p := ⟨b, 7, none⟩) hsl).trans c7
 have x8 := (hbw.cell (p := ⟨b, 8, none⟩) hsl).trans c8
 have g0 := lookNG (ud HNG) (X := X) (ud H).gone hbw (ud HS)
 have g1 := lookNG (ud HNG) (X := X.drew) (ud H).gone hbw.drew (ud HS)
 have g2 := fun o => lookNG (ud HNG) (X := X.alloc o) (ud H).gone (hbw.alloc hbw.size o) (ud HS)
 have g3 := fun o => lookNG (ud HNG) (X := (X.alloc o).drew) (ud H).gone (hbw.alloc hbw.size o).drew (ud HS)
 have g4 := fun o => lookNG (ud HNG) (X := X.drew.alloc o) (ud H).gone (hbw.drew.alloc hbw.drew.size o) (ud HS)
 have Y1 := zab y1
 have YZ := zab yz
 have HBW := zab hbw
 have Y0 := zab y0
 clear y0 y1 yz hbw c7 c8
 have hbl : b < X.heap.size := by have := ud YZ; omega
 have hkz : w.heap.size < X.heap.size := by have := ud YZ; omega
 have hkz1 : w.heap.size + 1 < X.heap.size := by have := ud YZ; omega
 go_region
 have hbY : Below X.heap.size X ((X.alloc (.cells #[] 221)).drew) := ((Below.refl _ _).alloc (Nat.le_refl _) _).drew
 have hwY : Below w.heap.size w ((X.alloc (.cells #[] 221)).drew) := (ud HBW).trans (hbY.mono (ud HBW).size)
 generalize ((X.alloc (.cells #[] 221)).drew) = Y at *
 have m0 := (hbY.cell (p := ⟨w.heap.size, 0, none⟩) hkz).trans k0
 have m1 := (hbY.cell (p := ⟨w.heap.size, 1, none⟩) hkz).trans k1
 have m2 := (hbY.cell (p := ⟨w.heap.size, 2, none⟩) hkz).trans k2
 have y7 := (hbY.cell (p := ⟨b, 7, none⟩) hbl).trans x7
 have e1 := (hbY.block (w.heap.size + 1) hkz1).trans (ud Y1)
 clear g0 g1 g2 g3 g4 k0 k1 k2 x7 x8
 have hYz := hbY.size
 have hbl : b < Y.heap.size := by omega
 have hkz : w.heap.size < Y.heap.size := by omega
 have hkz1 : w.heap.size + 1 < Y.heap.size := by omega
 have g0 := lookLV (hv := ud HV) (X := Y) (ud H).live hwY (ud HS)
 have g1 := lookLV (hv := ud HV) (X := Y.drew) (ud H).live hwY.drew (ud HS)
 have g2 := fun o => lookLV (hv := ud HV) (X := Y.alloc o) (ud H).live (hwY.alloc hwY.size o) (ud HS)
 have g3 := fun o => lookLV (hv := ud HV) (X := (Y.alloc o).drew) (ud H).live (hwY.alloc hwY.size o).drew (ud HS)
 have g4 := fun o => lookLV (hv := ud HV) (X := Y.drew.alloc o) (ud H).live (hwY.drew.alloc hwY.drew.size o) (ud HS)
 have HWY := zab hwY
 have E1 := zab e1
 clear hbY hwY e1
 go_wp2_with fail
 go_region
 have hbZ : Below Y.heap.size Y ((Y.alloc (.cells #[int i64 v.st, int i64 v.cl.cnt, int i64 v.cl.sum, .int .i32 v.cl.mn, .int .i32 v.cl.mx] 131)).drew) := ((Below.refl _ _).alloc (Nat.le_refl _) _).drew
 have hZl : ((Y.alloc (.cells #[int i64 v.st, int i64 v.cl.cnt, int i64 v.cl.sum, .int .i32 v.cl.mn, .int .i32 v.cl.mx] 131)).drew).heap[Y.heap.size]? = some (.cells #[int i64 v.st, int i64 v.cl.cnt, int i64 v.cl.sum, .int .i32 v.cl.mn, .int .i32 v.cl.mx] 131 (0, 0)) := zap _ _
 generalize ((Y.alloc (.cells #[int i64 v.st, int i64 v.cl.cnt, int i64 v.cl.sum, .int .i32 v.cl.mn, .int .i32 v.cl.mx] 131)).drew) = Z at *
 have z0 : Z.cell? ⟨Y.heap.size, 0, none⟩ = some (int i64 v.st) := by rw [zac hZl]; rfl
 have z1 : Z.cell? ⟨Y.heap.size, 1, none⟩ = some (int i64 v.cl.cnt) := by rw [zac hZl]; rfl
 have z2 : Z.cell? ⟨Y.heap.size, 2, none⟩ = some (int i64 v.cl.sum) := by rw [zac hZl]; rfl
 have z3 : Z.cell? ⟨Y.heap.size, 3, none⟩ = some (.int .i32 v.cl.mn) := by rw [zac hZl]; rfl
 have z4 : Z.cell? ⟨Y.heap.size, 4, none⟩ = some (.int .i32 v.cl.mx) := by rw [zac hZl]; rfl
 have ez := (hbZ.block (w.heap.size + 1) hkz1).trans (ud E1)
 have r0 : Z.cell? ⟨w.heap.size + 1, 0, none⟩ = some (int i64 0) := by rw [zac ez]; rfl
 have r1 : Z.cell? ⟨w.heap.size + 1, 1, none⟩ = some (int i64 0) := by rw [zac ez]; rfl
 have r2 : Z.cell? ⟨w.heap.size + 1, 2, none⟩ = some (.int .i32 0) := by rw [zac ez]; rfl
 have r3 : Z.cell? ⟨w.heap.size + 1, 3, none⟩ = some (.int .i32 0) := by rw [zac ez]; rfl
 have rf := fun j => zaz ez j
 have hne : (w.heap.size + 1 == Y.heap.size) = false := by simp; omega
 have hne2 : (Y.heap.size == w.heap.size + 1) = false := by simp; omega
 have hne3 : ¬ w.heap.size + 1 = Y.heap.size := by omega
 have hne4 : ¬ Y.heap.size = w.heap.size + 1 := by omega
 have EZ := zab ez
 have HBZ := zab hbZ
 clear g0 g1 g2 g3 g4 m0 m1 m2 y7 hZl ez hbZ
 go_wp2_with fail
 go_region
 go_wp2_with fail
 have hf := set4d (ud EZ) (int i64 v.cl.cnt) (int i64 v.cl.sum) (.int .i32 v.cl.mn) (.int .i32 v.cl.mx)
 refine bodyPost_ret (v := .tuple #[int i64 v.st, .agg #[int i64 v.cl.cnt, int i64 v.cl.sum, .int .i32 v.cl.mn, .int .i32 v.cl.mx]]) (results_tmp_row Tryz.results119 _ _ (w.heap.size + 1) _ _ _ _ _ rfl rfl hf Tryz.underlying114 rfl (by kernel_rfl)) rfl ?_
 exact ⟨rfl, ((ud HWY).trans ((ud HBZ).mono (ud HWY).size)).trans (below4d (Nat.le_succ _) _ _ _ _)⟩
set_option maxHeartbeats 4000000 in
theorem pfind_gone {w : World} {b : Nat} {c : Cf} {tv : Value} {lb gb : Nat} {Gl : List (Sg × Unit)} {L : LV} (h : zda w b c tv lb gb Gl L) (s : Sg) (hs : s.wf) (hng : zbm Gl s = some ()) :
  Calls Tryz.prog 119 #[.pointer (some ⟨b, 0, none⟩), .agg #[int i64 s.t, int i64 s.ser, int i64 s.win]] w fun e w' => e = .returned (.tuple #[int i64 4, clV zds]) /\ Below w.heap.size w w' := by
 have hsl := h.lt
 obtain ⟨-, -, -, -, -, -, -, c7, c8⟩ := h.cells
 have H := zab h
 obtain ⟨y0, y1, hbw, yz⟩ := box2 w (.cells #[int i64 s.t, int i64 s.ser, int i64 s.win] 137) (.cells #[int i64 0, int i64 0, .int .i32 0, .int .i32 0] 114)
 have HS := zab hs
 have HNG := zab hng
 clear h hs hng
 go_enter Tryz.func119, Tryz.ntmps119
 go_wp2_with fail
 generalize ((w.alloc (.cells #[int i64 s.t, int i64 s.ser, int i64 s.win] 137)).alloc (.cells #[int i64 0, int i64 0, .int .i32 0, .int .i32 0] 114)) = X at *
 have k0 : X.cell? ⟨w.heap.size, 0, none⟩ = some (int i64 s.t) := by rw [zac y0]; rfl
 have k1 : X.cell? ⟨w.heap.size, 1, none⟩ = some (int i64 s.ser) := by rw [zac y0]; rfl
 have k2 : X.cell? ⟨w.heap.size, 2, none⟩ = some (int i64 s.win) := by rw [zac y0]; rfl
 have x7 := (hbw.cell (p := ⟨b, 7, none⟩) hsl).trans c7
 have x8 := (hbw.cell (p := ⟨b, 8, none⟩) hsl).trans c8
 have g0 := lookYG (ud HNG) (X := X) (ud H).gone hbw (ud HS)
 have g1 := lookYG (ud HNG) (X := X.drew) (ud H).gone hbw.drew (ud HS)
 have g2 := fun o => lookYG (ud HNG) (X := X.alloc o) (ud H).gone (hbw.alloc hbw.size o) (ud HS)
 have g3 := fun o => lookYG (ud HNG) (X := (X.alloc o).drew) (ud H).gone (hbw.alloc hbw.size o).drew (ud HS)
 have g4 := fun o => lookYG (ud HNG) (X := X.drew.alloc o) (ud H).gone (hbw.drew.alloc hbw.drew.size o) (ud HS)
 have Y1 := zab y1
 have YZ := zab yz
 have HBW := zab hbw
 have Y0 := zab y0
 clear y0 y1 yz hbw c7 c8
 have hbl : b < X.heap.size := by have := ud YZ; omega
 have hkz : w.heap.size < X.heap.size := by have := ud YZ; omega
 have hkz1 : w.heap.size + 1 < X.heap.size := by have := ud YZ; omega
 go_region
 have hbY : Below X.heap.size X ((X.alloc (.cells #[] 221)).drew) := ((Below.refl _ _).alloc (Nat.le_refl _) _).drew
 have hwY : Below w.heap.size w ((X.alloc (.cells #[] 221)).drew) := (ud HBW).trans (hbY.mono (ud HBW).size)
 generalize ((X.alloc (.cells #[] 221)).drew) = Y at *
 have e1 := (hbY.block (w.heap.size + 1) hkz1).trans (ud Y1)
 clear g0 g1 g2 g3 g4 k0 k1 k2 x7 x8
 have hYz := hbY.size
 have hkz1 : w.heap.size + 1 < Y.heap.size := by omega
 have r0 : Y.cell? ⟨w.heap.size + 1, 0, none⟩ = some (int i64 0) := by rw [zac e1]; rfl
 have r1 : Y.cell? ⟨w.heap.size + 1, 1, none⟩ = some (int i64 0) := by rw [zac e1]; rfl
 have r2 : Y.cell? ⟨w.heap.size + 1, 2, none⟩ = some (.int .i32 0) := by rw [zac e1]; rfl
 have r3 : Y.cell? ⟨w.heap.size + 1, 3, none⟩ = some (.int .i32 0) := by rw [zac e1]; rfl
 have rf := fun j => zaz e1 j
 have HWY := zab hwY
 have E1 := zab e1
 clear hbY hwY e1
 go_wp2_with fail
 have hf := zbz (i := 3) (zbz (i := 2) (zbz (i := 1) (zbz (i := 0) (ud E1) (int i64 0)) (int i64 0)) (.int .i32 0)) (.int .i32 0)
 refine bodyPost_ret (v := .tuple #[int i64 4, .agg #[int i64 0, int i64 0, .int .i32 0, .int .i32 0]]) (results_tmp_row Tryz.results119 _ _ (w.heap.size + 1) _ _ _ _ _ rfl rfl hf Tryz.underlying114 rfl (by kernel_rfl)) rfl ?_
 exact ⟨rfl, (ud HWY).trans (below4 (Nat.le_succ _) _ _ _ _)⟩
def stG (Gl : List (Sg × Unit)) (L : LV) (s : Sg) : SV := match zbm Gl s with
 | none => stL L s
 | some _ => ⟨4, zds⟩
theorem pfind_any {w : World} {b : Nat} {c : Cf} {tv : Value} {lb gb : Nat} {Gl : List (Sg × Unit)} {L : LV} (h : zda w b c tv lb gb Gl L) (s : Sg) (hs : s.wf) :
  Calls Tryz.prog 119 #[.pointer (some ⟨b, 0, none⟩), .agg #[int i64 s.t, int i64 s.ser, int i64 s.win]] w fun e w' => e = .returned (.tuple #[int i64 (stG Gl L s).st, clV (stG Gl L s).cl]) /\ Below w.heap.size w w' := by
 unfold stG
 cases hg : zbm Gl s with
 | none => exact pfind_live h s hs hg
 | some u => exact pfind_gone h s hs hg
set_option maxHeartbeats 1000000 in
theorem pmissing_any {w : World} {b : Nat} {c : Cf} {tv : Value} {lb gb : Nat} {Gl : List (Sg × Unit)} {L : LV} (h : zda w b c tv lb gb Gl L) (s : Sg) (hs : s.wf) :
  Calls Tryz.prog 167 #[.pointer (some ⟨b, 0, none⟩), .agg #[int i64 s.t, int i64 s.ser, int i64 s.win]] w fun e w' => e = .returned (.bool ((stG Gl L s).st == 0)) /\ Below w.heap.size w w' := by
 have hb0 : ∀ o, Below w.heap.size w (w.alloc o) := fun o => (Below.refl _ _).alloc (Nat.le_refl _) _
 have HF := fun o => zab (pfind_any (h.later (hb0 o)) s hs)
 unfold clV at HF
 clear h hs
 generalize stG Gl L s = v at *
 go_enter Tryz.func167, Tryz.ntmps167
 go_wp2_with fail
 refine (ud (HF _)).mono ?_
 rintro e w1 ⟨rfl, hb1⟩
 go_wp2_with fail
 go_ret
 exact ⟨rfl, ((hb0 _).trans (hb1.mono (hb0 _).size)).alloc (Nat.le_trans (hb0 _).size hb1.size) _⟩
theorem fld_st (v : SV) (W : World) : (Instr.field 131 (.agg #[int i64 v.st, int i64 v.cl.cnt, int i64 v.cl.sum, .int .i32 v.cl.mn, .int .i32 v.cl.mx]) 0).run Tryz.prog W = .ok (int i64 v.st) W := by kernel_rfl
set_option maxHeartbeats 1000000 in
theorem pwaits_any {w : World} {b : Nat} {c : Cf} {tv : Value} {lb gb : Nat} {Gl : List (Sg × Unit)} {L : LV} (h : zda w b c tv lb gb Gl L) (s : Sg) (hs : s.wf) :
  Calls Tryz.prog 147 #[.pointer (some ⟨b, 0, none⟩), .agg #[int i64 s.t, int i64 s.ser, int i64 s.win]] w fun e w' => e = .returned (.bool ((stL L s).st == 2)) /\ Below w.heap.size w w' := by
 obtain ⟨v, hv⟩ : ∃ v, v = stL L s := ⟨_, rfl⟩
 rw [<- hv]
 have hsl := h.lt
 obtain ⟨-, -, -, -, -, -, -, c7, -⟩ := h.cells
 have hb0 : ∀ o, Below w.heap.size w (w.alloc o) := fun o => (Below.refl _ _).alloc (Nat.le_refl _) _
 have hb1 := hb0 (.cells #[int i64 s.t, int i64 s.ser, int i64 s.win] 137)
 have y0 := zap w (.cells #[int i64 s.t, int i64 s.ser, int i64 s.win] 137)
 have yz := zbd w (.cells #[int i64 s.t, int i64 s.ser, int i64 s.win] 137)
 have HL := fun X hX => lookLV (hv := hv) (X := X) h.live hX hs
 clear h hs hv
 go_enter Tryz.func147, Tryz.ntmps147
 go_wp2_with fail
 generalize (w.alloc (.cells #[int i64 s.t, int i64 s.ser, int i64 s.win] 137)) = X at *
 have k0 : X.cell? ⟨w.heap.size, 0, none⟩ = some (int i64 s.t) := by rw [zac y0]; rfl
 have k1 : X.cell? ⟨w.heap.size, 1, none⟩ = some (int i64 s.ser) := by rw [zac y0]; rfl
 have k2 : X.cell? ⟨w.heap.size, 2, none⟩ = some (int i64 s.win) := by rw [zac y0]; rfl
 have x7 := (hb1.cell (p := ⟨b, 7, none⟩) hsl).trans c7
 have g0 := HL X hb1
 have g1 := HL X.drew hb1.drew
 have fl := fld_st v
 have hkz : w.heap.size < X.heap.size := by omega
 have hbl : b < X.heap.size := by omega
 have HB1 := zab hb1
 clear HL y0 yz hb1 c7
 go_region
 go_wp2_with fail
 go_ret
 exact ⟨rfl, (ud HB1).drew⟩
attribute [local go_sem] Oper.semAt_some
def aboL (c : Cf) (t st : Int) (k : Nat) : List (Int × Int) := ((List.range k).filter (fun i => c.F i == t)).map (fun i : Nat => ((i : Int), st / c.W i))
theorem aboL_succ (c : Cf) (t st : Int) (k : Nat) : aboL c t st (k + 1) = if c.F k = t then aboL c t st k ++ [((k : Int), st / c.W k)] else aboL c t st k := by
 unfold aboL
 rw [List.range_succ, List.filter_append, List.map_append]
 by_cases h : c.F k = t <;> simp [h]
theorem aboL_len (c : Cf) (t st : Int) (k : Nat) : (aboL c t st k).length <= k := by
 unfold aboL; rw [List.length_map]; exact Nat.le_trans (List.length_filter_le _ _) (by simp)
abbrev WP := { p : Int × Int // i64B p.1 /\ i64B p.2 }
noncomputable def wPair (p : Int × Int) : WP := by classical exact if h : i64B p.1 /\ i64B p.2 then ⟨p, h⟩ else ⟨(0, 0), by unfold i64B; simp⟩
theorem wPair_val {p : Int × Int} (h : i64B p.1 /\ i64B p.2) : (wPair p).1 = p := by unfold wPair; rw [dif_pos h]
theorem aboL_ok {c : Cf} (hc : c.ok) {st : Int} (hst : 0 <= st /\ st <= 1000000000) {k : Nat} (hk : k < c.n) : i64B (((k : Int), st / c.W k) : Int × Int).1 /\ i64B (((k : Int), st / c.W k) : Int × Int).2 := by
 obtain ⟨w1, w2⟩ := hc.W k hk
 have h4 := hc.n4
 have h1 : 0 <= st / c.W k := Int.ediv_nonneg hst.1 (by omega)
 have h2 : st / c.W k <= st := Int.ediv_le_self _ hst.1
 unfold i64B; simp only; omega
structure AR (W : World) (q Bs : Nat) (c : Cf) (a : Option Addr) (cap : Nat) (t st : Int) : Prop where
 b0 : W.heap[q]? = some (.cells #[int i64 c.s, int i64 c.le, int i64 c.la, int i64 c.wi, int i64 c.ke, int i64 c.qu, .slice a c.n cap] 80 (0, 0))
 b1 : W.heap[q + 1]? = some (.cells #[int i64 t] 3 (0, 0))
 b2 : W.heap[Bs]? = some (.cells #[int i64 st] 3 (0, 0))
 ts : TS W a c.n c.F c.W c.K
theorem AR.later {W W' : World} {q Bs : Nat} {c : Cf} {a : Option Addr} {cap : Nat} {t st : Int} (h : AR W q Bs c a cap t st) (hb : Below W.heap.size W W') : AR W' q Bs c a cap t st :=
 ⟨(hb.block _ (zaa h.b0)).trans h.b0, (hb.block _ (zaa h.b1)).trans h.b1, (hb.block _ (zaa h.b2)).trans h.b2, h.ts.below hb⟩
set_option maxHeartbeats 1000000 in
theorem labove_any (c : Cf) (hc : c.ok) (a : Option Addr) (cap : Nat) (t win : Int) (ht1 : -1 <= t) (ht2 : t < c.n) (hwn : 0 <= win /\ win <= 100000) (w : World) (hts : TS w a c.n c.F c.W c.K) :
  Calls Tryz.prog 197 #[.agg #[int i64 c.s, int i64 c.le, int i64 c.la, int i64 c.wi, int i64 c.ke, int i64 c.qu, .slice a c.n cap], int i64 t, int i64 win] w fun e w' => ∃ Bs, e = .returned (.func (.func 220) #[] #[.pointer (some ⟨w.heap.size, 0, none⟩), .pointer (some ⟨w.heap.size + 1, 0, none⟩), .pointer (some ⟨Bs, 0, none⟩)]) /\ AR w' w.heap.size Bs c a cap t (win * c.width t) /\ w.heap.size <= Bs /\ Below w.heap.size w w' := by
 obtain ⟨y0, y1, hbw, yz⟩ := box2 w (.cells #[int i64 c.s, int i64 c.le, int i64 c.la, int i64 c.wi, int i64 c.ke, int i64 c.qu, .slice a c.n cap] 80) (.cells #[int i64 t] 3)
 obtain ⟨hw1, hw2⟩ := hc.width ht1 ht2
 have hmul : 0 <= win * c.width t /\ win * c.width t <= 1000000000 := by
  constructor
  ·exact Int.mul_nonneg (by omega) (by omega)
  ·have := Int.mul_le_mul (show win <= 100000 by omega) hw2 (by omega) (by omega); omega
 have hn4 := hc.n4
 have HWC := zab (width_any c.s c.le c.la c.wi c.ke c.qu a c.n cap c.F c.W c.K t ht1 ht2 hn4 _ (hts.below hbw))
 rw [show zbr c.wi c.W t = c.width t from rfl] at HWC
 have HTS := zab hts
 clear hts hc
 obtain ⟨v, hv⟩ : ∃ v, c.width t = v := ⟨_, rfl⟩
 rw [hv] at HWC hmul hw1 hw2 ⊢
 clear hv
 have k0 : ((w.alloc (.cells #[int i64 c.s, int i64 c.le, int i64 c.la, int i64 c.wi, int i64 c.ke, int i64 c.qu, .slice a c.n cap] 80)).alloc (.cells #[int i64 t] 3)).cell? ⟨w.heap.size + 1, 0, none⟩ = some (int i64 t) := by rw [zac y1]; rfl
 have x0 : ((w.alloc (.cells #[int i64 c.s, int i64 c.le, int i64 c.la, int i64 c.wi, int i64 c.ke, int i64 c.qu, .slice a c.n cap] 80)).alloc (.cells #[int i64 t] 3)).cell? ⟨w.heap.size, 0, none⟩ = some (int i64 c.s) := by rw [zac y0]; rfl
 have x1 : ((w.alloc (.cells #[int i64 c.s, int i64 c.le, int i64 c.la, int i64 c.wi, int i64 c.ke, int i64 c.qu, .slice a c.n cap] 80)).alloc (.cells #[int i64 t] 3)).cell? ⟨w.heap.size, 1, none⟩ = some (int i64 c.le) := by rw [zac y0]; rfl
 have x2 : ((w.alloc (.cells #[int i64 c.s, int i64 c.le, int i64 c.la, int i64 c.wi, int i64 c.ke, int i64 c.qu, .slice a c.n cap] 80)).alloc (.cells #[int i64 t] 3)).cell? ⟨w.heap.size, 2, none⟩ = some (int i64 c.la) := by rw [zac y0]; rfl
 have x3 : ((w.alloc (.cells #[int i64 c.s, int i64 c.le, int i64 c.la, int i64 c.wi, int i64 c.ke, int i64 c.qu, .slice a c.n cap] 80)).alloc (.cells #[int i64 t] 3)).cell? ⟨w.heap.size, 3, none⟩ = some (int i64 c.wi) := by rw [zac y0]; rfl
 have x4 : ((w.alloc (.cells #[int i64 c.s, int i64 c.le, int i64 c.la, int i64 c.wi, int i64 c.ke, int i64 c.qu, .slice a c.n cap] 80)).alloc (.cells #[int i64 t] 3)).cell? ⟨w.heap.size, 4, none⟩ = some (int i64 c.ke) := by rw [zac y0]; rfl
 have x5 : ((w.alloc (.cells #[int i64 c.s, int i64 c.le, int i64 c.la, int i64 c.wi, int i64 c.ke, int i64 c.qu, .slice a c.n cap] 80)).alloc (.cells #[int i64 t] 3)).cell? ⟨w.heap.size, 5, none⟩ = some (int i64 c.qu) := by rw [zac y0]; rfl
 have x6 : ((w.alloc (.cells #[int i64 c.s, int i64 c.le, int i64 c.la, int i64 c.wi, int i64 c.ke, int i64 c.qu, .slice a c.n cap] 80)).alloc (.cells #[int i64 t] 3)).cell? ⟨w.heap.size, 6, none⟩ = some (.slice a c.n cap) := by rw [zac y0]; rfl
 have Y0 := zab y0
 have Y1 := zab y1
 have YZ := zab yz
 have HBW := zab hbw
 have hw64 : wrap64 (win * v) = win * v := by unfold wrap64; omega
 clear y0 y1 yz hbw
 go_enter Tryz.func197, Tryz.ntmps197
 go_wp2_with fail
 generalize ((w.alloc (.cells #[int i64 c.s, int i64 c.le, int i64 c.la, int i64 c.wi, int i64 c.ke, int i64 c.qu, .slice a c.n cap] 80)).alloc (.cells #[int i64 t] 3)) = X at *
 refine (ud HWC).mono ?_
 rintro e w1 ⟨rfl, hb1⟩
 have HB1 := zab hb1
 clear hb1
 go_wp2_with fail
 go_ret
 have hb := ud HB1
 have hz : X.heap.size = w.heap.size + 2 := ud YZ
 have hs1 := hb.size
 have hw1 : Below w.heap.size w w1 := (ud HBW).trans (hb.mono (by omega))
 have hba : Below w1.heap.size w1 (w1.alloc (.cells #[int i64 (win * v)] 3)) := (Below.refl _ _).alloc (Nat.le_refl _) _
 have hwa := hw1.trans (hba.mono hw1.size)
 refine ⟨w1.heap.size, rfl, ⟨(hba.block _ (by omega)).trans ((hb.block _ (by omega)).trans (ud Y0)), (hba.block _ (by omega)).trans ((hb.block _ (by omega)).trans (ud Y1)), zap _ _, (ud HTS).below hwa⟩, hw1.size, hwa⟩
set_option maxRecDepth 100000 in
set_option maxHeartbeats 2000000 in
theorem above1_any (l q Bs : Nat) (c : Cf) (hc : c.ok) (a : Option Addr) (cap : Nat) (t st : Int) (hst : 0 <= st /\ st <= 1000000000) (Kp : World -> World -> Prop) (hKr : ∀ A B, Kp A B -> AR A q Bs c a cap t st -> AR B q Bs c a cap t st) (hKz : ∀ A B, Kp A B -> A.heap.size <= B.heap.size) (J Jx : List WP -> World -> Prop)
  (hY : ∀ pre x V, J pre V -> pre.length < c.n -> YieldAt Fence.wide 5 Tryz.prog l #[int i64 x.1.1, int i64 x.1.2] V fun e V' => (e = .returned (.bool true) /\ J (pre ++ [x]) V' /\ Kp V V') \/ (e = .returned (.bool false) /\ Jx (pre ++ [x]) V' /\ Kp V V'))
  (W : World) (hJ : OwnFrom W.heap.size J) (hR : AR W q Bs c a cap t st) (h0 : J [] W) :
  CallsIn Fence.wide 6 Tryz.prog 220 #[.func (.yield l) #[] #[], .pointer (some ⟨q, 0, none⟩), .pointer (some ⟨q + 1, 0, none⟩), .pointer (some ⟨Bs, 0, none⟩)] W fun e W' => (∃ v, e = .returned v) /\
   ((∃ xs, xs = (aboL c t st c.n).map wPair /\ J xs W') \/ (∃ pre, True /\ Jx pre W')) := by
 have q6 : W.cell? ⟨q, 6, none⟩ = some (.slice a c.n cap) := by rw [zac hR.b0]; rfl
 have hn4 := hc.n4
 have hn1 := hc.n1
 have HC := zab hc
 have HR := zab hR
 have HJ := zab hJ
 have HY := zab hY
 have HKR := zab hKr
 have HKZ := zab hKz
 clear hR hJ hY hKr hc hKz
 refine callsIn_of_wp Tryz.func220 rfl trivial ?_ rfl
 simp only [Tryz.ntmps220, List.size_toArray, List.length_cons, List.length_nil, Nat.reduceAdd, Nat.reduceSub, Array.replicate_succ, Array.replicate_zero, List.push_toArray, List.append_toArray, List.nil_append, List.cons_append]
 gi_wp2
 gi_loopw [5, 6, 11] (fun _ _ i wr => ∃ k : Nat, k <= c.n /\ i = int i64 k /\ J ((aboL c t st k).map wPair) wr /\ AR wr q Bs c a cap t st /\ W.heap.size <= wr.heap.size)
  (fun _ _ i _ => c.n - (intOf i).toNat)
 case atStart => exact ⟨0, Nat.zero_le _, rfl, h0, ud HR, Nat.le_refl _⟩
 case round =>
  obtain ⟨k, hk, rfl, hJs, hRr, hWz⟩ := hrel
  by_cases hlt : k < c.n
  ·have hlt' : (k : Int) < c.n := by omega
   obtain ⟨b, off, ha, hbz, hcs⟩ := hRr.ts (by omega)
   obtain ⟨f0, f1, f2⟩ := hcs k hlt
   have q1 : wr.cell? ⟨q + 1, 0, none⟩ = some (int i64 t) := by rw [zac hRr.b1]; rfl
   have q2 : wr.cell? ⟨Bs, 0, none⟩ = some (int i64 st) := by rw [zac hRr.b2]; rfl
   have hq1 := zaa hRr.b1
   have hq2 := zaa hRr.b2
   have HRR := zab hRr
   obtain ⟨w1, w2⟩ := (ud HC).W k hlt
   have hw0 : ¬ c.W k = 0 := by omega
   have HA := zab ha
   subst ha
   clear hRr hcs
   by_cases hF : c.F k = t
   ·have hF' : (c.F k == t) = true := by simpa using hF
    have hba : Below wr.heap.size wr (wr.alloc (.cells #[int i64 (c.F k), int i64 (c.W k), int i64 (c.K k)] 66)) := (Below.refl _ _).alloc (Nat.le_refl _) _
    have hJ2 := zcr (ud HJ) hJs hba
    obtain ⟨fn, tmps, assign, body, hy, hR3⟩ := ud HY _ (wPair ((k : Int), st / c.W k)) _ hJ2 (by rw [List.length_map]; exact Nat.lt_of_le_of_lt (aboL_len c t st k) hlt)
    rw [wPair_val (aboL_ok (ud HC) hst hlt)] at hy
    dsimp only at hy
    have HF := zab hF
    have HRA := zab ((ud HRR).later hba)
    have hws := hba.size
    clear hF hJ2 hba
    gi_wp2
    refine hR3.mono ?_
    rintro e W3 (⟨rfl, hJ3, hk3⟩ | ⟨rfl, hJx3, hk3⟩)
    ·have HR3 := zab (ud HKR _ _ hk3 (ud HRA))
     have hz3 := ud HKZ _ _ hk3
     have HJ3 : Hid (J ((aboL c t st (k + 1)).map wPair) W3) := by show J _ W3; rw [aboL_succ, if_pos (ud HF), List.map_append, List.map_singleton]; exact hJ3
     clear hJ3 hk3
     gi_wp2
     go_roundw
     case rel => exact ⟨k + 1, by omega, by simp, ud HJ3, ud HR3, by omega⟩
     case measure => simp [intOf]; omega
    ·gi_wp2
     refine bodyPost_ret (results_none rfl _ _ _) rfl ?_
     exact ⟨⟨_, rfl⟩, .inr ⟨_, trivial, hJx3⟩⟩
   ·have hF' : (c.F k == t) = false := by simpa using hF
    have hba : Below wr.heap.size wr (wr.alloc (.cells #[int i64 (c.F k), int i64 (c.W k), int i64 (c.K k)] 66)) := (Below.refl _ _).alloc (Nat.le_refl _) _
    have HJ2 : Hid (J ((aboL c t st (k + 1)).map wPair) (wr.alloc (.cells #[int i64 (c.F k), int i64 (c.W k), int i64 (c.K k)] 66))) := by show J _ _; rw [aboL_succ, if_neg hF]; exact zcr (ud HJ) hJs hba
    have HRA := zab ((ud HRR).later hba)
    have hws := hba.size
    clear hF hba
    gi_wp2
    refine ⟨fun _ h => (by cases h), ?_⟩
    gi_wp2
    go_roundw
    case rel => exact ⟨k + 1, by omega, by simp, ud HJ2, ud HRA, by omega⟩
    case measure => simp [intOf]; omega
  ·obtain rfl : k = c.n := by omega
   gi_wp2
   go_end0
   exact ⟨⟨_, rfl⟩, .inl ⟨_, rfl, hJs⟩⟩
theorem above_seq (q Bs : Nat) (c : Cf) (hc : c.ok) (a : Option Addr) (cap : Nat) (t st : Int) (hst : 0 <= st /\ st <= 1000000000) (Kp : World -> World -> Prop) (hKr : ∀ A B, Kp A B -> AR A q Bs c a cap t st -> AR B q Bs c a cap t st) (hKz : ∀ A B, Kp A B -> A.heap.size <= B.heap.size) (m : Nat) (w : World) (hR : AR w q Bs c a cap t st) :
  SeqO Fence.wide 6 Tryz.prog 220 #[.pointer (some ⟨q, 0, none⟩), .pointer (some ⟨q + 1, 0, none⟩), .pointer (some ⟨Bs, 0, none⟩)] (fun x : WP => #[int i64 x.1.1, int i64 x.1.2]) Kp (fun xs => xs = (aboL c t st c.n).map wPair) (fun _ => True) c.n m w :=
 fun l J Jx W hW _ hJ hJx hY h0 => above1_any l q Bs c hc a cap t st hst Kp hKr hKz J Jx hY W hJ (hR.later hW) h0
theorem above_enters : ∀ args w, (callFunc 220 args).run Tryz.prog w = .ok (.enter 220 args) w := enters_of Tryz.func220 (by kernel_rfl) rfl
end Go.Proofs.YtpbimdkclnekeaaGreat

namespace Go.Proofs.YtpbimdkclnekeaaGreat
open Go.RowKit Go.Maps Go.Shelf
open Go.ChangeMaps (setBlock)
set_option linter.unusedVariables false
def manyOf (c : Cf) (k : Nat) : Int := c.width (k : Int) / c.width (c.F k)
end Go.Proofs.YtpbimdkclnekeaaGreat
