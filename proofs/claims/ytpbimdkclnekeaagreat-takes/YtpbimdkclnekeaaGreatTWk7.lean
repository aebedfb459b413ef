import Derived.Test.YtpbimdkclnekeaaGreatTWk5
import Derived.Test.YtpbimdkclnekeaaGreatTWk3
import Derived.Test.YtpbimdkclnekeaaGreatTOpz1
import Derived.Test.YtpbimdkclnekeaaGreatTZet7
import Derived.Test.YtpbimdkclnekeaaGreatTConf4
import Derived.Test.YtpbimdkclnekeaaGreatTWk9
import Derived.Test.YtpbimdkclnekeaaGreatTPck2
import Derived.Test.YtpbimdkclnekeaaGreatTRefO
import Derived.Test.YtpbimdkclnekeaaGreatTWhr0
import Derived.Test.YtpbimdkclnekeaaGreatTRefE
import Derived.OwnWalkIn
import Derived.Test.YtpbimdkclnekeaaGreatProg
import Derived.Test.YtpbimdkclnekeaaGreatTMlz0
import Derived.Test.YtpbimdkclnekeaaGreatTLawD
import Derived.Test.YtpbimdkclnekeaaGreatTFits0
import Derived.Test.YtpbimdkclnekeaaGreatRows
import Derived.WalkKit
import Derived.ProofKit
import Derived.OpenShut
import Derived.ChangeOld
import Derived.Below
import Derived.SizedLaws

namespace Go.Proofs.YtpbimdkclnekeaaGreat
open Value (int)
open IntKind (i64)
open Go.RowKit Go.Maps Go.Shelf
set_option linter.unusedVariables false
theorem opens_bad (c : Cf) (hsz : 24 * (c.n + 1) <= 281474976710656) (hr : zcd c.s c.le c.la c.wi c.ke c.qu c.n c.F c.W c.K = false) (a : Option Addr) (cap p : Nat) (w : World) (hts : TS w a c.n c.F c.W c.K) :
  Calls Tryz.prog 48 #[.agg #[int i64 c.s, int i64 c.le, int i64 c.la, int i64 c.wi, int i64 c.ke, int i64 c.qu, .slice a c.n cap], .pointer (some ⟨p, 0, none⟩)] w fun e w' => e = .returned (.tuple #[.pointer none, int i64 1, .bool true]) /\ Below w.heap.size w w' := by
 refine (opens_gen c.s c.le c.la c.wi c.ke c.qu a c.n cap c.F c.W c.K hsz w p (fun _ => False) (fun k h => h.elim) (fun w' hk => hts.below (hk.below (Nat.le_refl _) (fun k h => h.elim))) (fun xo ec _ => xo = none /\ ec = 1) (fun xo ec A B hk h => h) (fun w4 hb hs ht => ?_)).mono ?_
 ·refine (popen_bad c hr (some ⟨w.heap.size + 1, 0, none⟩) (c.n + 1) p w4 (ht w4 (zan.refl _ _))).mono ?_
  rintro e w5 ⟨rfl, hb5⟩
  exact ⟨none, 1, rfl, zan.of_below hb5, rfl, rfl⟩
 ·rintro e w' ⟨xo, ec, rfl, hk, rfl, rfl⟩
  exact ⟨rfl, hk.below (Nat.le_refl _) (fun k h => h.elim)⟩
def opensPost (c : Cf) (B p : Nat) (fs : Value) (w : World) (e : Ending) (w' : World) : Prop :=
 ∃ (i : Ids) (fs' : Value), e = .returned (.tuple #[.pointer (some ⟨i.x, 0, none⟩), int i64 0, .bool true]) /\ zbb w' i c 1 ⟨0, [], [], 0, [], []⟩ /\ zaw 119 185 B w' p opS2 fs' /\ zan (zen p fs) w w' /\ (∀ k, fs'.ownBlock = some k -> fs.ownBlock = some k \/ w.heap.size <= k) /\ (∀ k, zcz i k -> w.heap.size <= k /\ ¬ zen p fs' k)
theorem opens_good (c : Cf) (hc : c.ok) (hr : zcd c.s c.le c.la c.wi c.ke c.qu c.n c.F c.W c.K = true) (a : Option Addr) (cap B p : Nat) (fs : Value) (w : World) (hB : B <= w.heap.size) (hd : zaw 119 185 B w p newS fs) (hts : ∀ w', zan (zen p fs) w w' -> TS w' a c.n c.F c.W c.K) :
  Calls Tryz.prog 48 #[.agg #[int i64 c.s, int i64 c.le, int i64 c.la, int i64 c.wi, int i64 c.ke, int i64 c.qu, .slice a c.n cap], .pointer (some ⟨p, 0, none⟩)] w (opensPost c B p fs w) := by
 have hpl := hd.lt
 have hfl : ∀ k, zen p fs k -> k < w.heap.size := fun k hk => by
  rcases hk with rfl | hk
  ·exact hpl
  ·exact own_lt hd.row k hk
 have hn4 := hc.n4
 refine (opens_gen c.s c.le c.la c.wi c.ke c.qu a c.n cap c.F c.W c.K (by omega) w p (zen p fs) hfl hts
  (fun xo ec w' => ∃ (i : Ids) (fs' : Value), xo = some ⟨i.x, 0, none⟩ /\ ec = 0 /\ zbb w' i c 1 ⟨0, [], [], 0, [], []⟩ /\ zaw 119 185 B w' p opS2 fs' /\ (∀ k, fs'.ownBlock = some k -> fs.ownBlock = some k \/ w.heap.size + 3 <= k) /\ (∀ k, zcz i k -> w.heap.size + 3 <= k /\ ¬ zen p fs' k))
  (fun xo ec A B hk h => ?_) (fun w4 hb hs ht => ?_)).mono ?_
 ·obtain ⟨i, fs', e1, e2, hm, hdk, hfs, hmf⟩ := h
  refine ⟨i, fs', e1, e2, hm.kept hk (fun k hk e => ?_), hdk.kept hk (fun k hk e => ?_), hfs, hmf⟩
  ·have := (hmf k hk).1; omega
  ·rcases hk with rfl | hk
   ·omega
   ·rcases hfs k hk with h | h
    ·have := hfl k (Or.inr h); omega
    ·omega
 ·refine (popen_any c hc hr (some ⟨w.heap.size + 1, 0, none⟩) (c.n + 1) B p fs w4 (by omega) (hd.later hb) ht).mono ?_
  rintro e w5 ⟨i, fs', rfl, hm, hdk, hk, hfs, hmf⟩
  exact ⟨_, _, rfl, hk, i, fs', rfl, rfl, hm, hdk, fun k hk => (hfs k hk).imp id (fun h => by omega), fun k hk => ⟨by have := (hmf k hk).1; omega, (hmf k hk).2⟩⟩
 ·rintro e w' ⟨xo, ec, rfl, hk, i, fs', rfl, rfl, hm, hdk, hfs, hmf⟩
  exact ⟨i, fs', rfl, hm, hdk, hk, fun k hk => (hfs k hk).imp id (fun h => by omega), fun k hk => ⟨by have := (hmf k hk).1; omega, (hmf k hk).2⟩⟩
theorem stop_new : stopAt newS (-1) = newS := by rfl
theorem new_free : zas newS = false := by rfl
set_option maxRecDepth 8000 in
set_option maxHeartbeats 4000000 in
theorem opened_bad (c : Cf) (hsz : 24 * (c.n + 1) <= 281474976710656) (hr : zcd c.s c.le c.la c.wi c.ke c.qu c.n c.F c.W c.K = false) (a : Option Addr) (cap wb : Nat) (w : World) (hts : TS w a c.n c.F c.W c.K) :
  Calls Tryz.prog 20 #[.pointer (some ⟨wb, 0, none⟩), .agg #[int i64 c.s, int i64 c.le, int i64 c.la, int i64 c.wi, int i64 c.ke, int i64 c.qu, .slice a c.n cap], int i64 (-1)] w fun e w' => e = .returned (.bool true) /\ Below w.heap.size w w' := by
 have hbX : Below w.heap.size w (w.alloc (.cells #[int i64 c.s, int i64 c.le, int i64 c.la, int i64 c.wi, int i64 c.ke, int i64 c.qu, .slice a c.n cap] 27)) := (Below.refl _ _).alloc (Nat.le_refl _) _
 have HCF := zab (CF.made w 27 (0, 0) c.s c.le c.la c.wi c.ke c.qu a c.n cap)
 have HXS : Hid ((w.alloc (.cells #[int i64 c.s, int i64 c.le, int i64 c.la, int i64 c.wi, int i64 c.ke, int i64 c.qu, .slice a c.n cap] 27)).heap.size = w.heap.size + 1) := zbd w _
 have HBX := zab hbX
 clear hbX
 go_enter Tryz.func20, Tryz.ntmps20
 go_wp2_with fail
 generalize (w.alloc (.cells #[int i64 c.s, int i64 c.le, int i64 c.la, int i64 c.wi, int i64 c.ke, int i64 c.qu, .slice a c.n cap] 27)) = X at *
 refine (new_any 0 X (Nat.zero_le _)).mono ?_
 rintro e w1 ⟨rfl, hd1, hb1, hs1⟩
 have HST := zab (stop_any 0 _ newS _ (-1) w1 hd1)
 rw [stop_new] at HST
 have HB1 := zab hb1
 clear hs1 hb1 hd1
 go_wp2_with fail
 refine (ud HST).mono ?_
 rintro e w2 ⟨rfl, hd2, hk2⟩
 have HSD := zab (zet 0 _ newS _ w2 hd2)
 rw [new_free] at HSD
 have hk12 : zan (fun k => k = X.heap.size) X w2 := (zan.of_below (f := fun k => k = X.heap.size) (ud HB1)).trans hk2 (fun i hi e => by
  rcases e with e | e
  ·exact e
  ·cases e)
 have hbX2 : Below X.heap.size X w2 := hk12.below (Nat.le_refl _) (fun k e => by omega)
 have hbw2 : Below w.heap.size w w2 := (ud HBX).trans (hbX2.mono (ud HBX).size)
 have hXl : w.heap.size < X.heap.size := by have := ud HXS; omega
 have HCF2 := zab ((ud HCF).below hbX2 hXl)
 obtain ⟨_, c0, c1, c2, c3, c4, c5, c6⟩ := ud HCF2
 have HBW2 := zab hbw2
 have HBX2 := zab hbX2
 have HD2 := zab hd2
 clear hk2 hk12 hd2 hbX2 hbw2 HST HB1
 go_wp2_with fail
 refine (ud HSD).mono ?_
 rintro e V1 ⟨rfl, hV1⟩
 rw [hV1]
 clear hV1 HSD
 have HOP := zab (opens_bad c hsz hr a cap X.heap.size w2 (hts.below (ud HBW2)))
 go_wp2_with fail
 refine (ud HOP).mono ?_
 rintro e w3 ⟨rfl, hb3⟩
 have hbw3 := (ud HBW2).trans (hb3.mono (ud HBW2).size)
 have hl2 : w.heap.size < w2.heap.size := Nat.lt_of_lt_of_le hXl (ud HBX2).size
 obtain ⟨_, d0, d1, d2, d3, d4, d5, d6⟩ := (ud HCF2).below hb3 hl2
 have HRR := zab (refRight_any c.s c.le c.la c.wi c.ke c.qu a c.n cap c.F c.W c.K w3 (hts.below hbw3))
 rw [hr, show codeOf false = 1 from rfl] at HRR
 have HBW3 := zab hbw3
 clear hb3 hbw3 HOP c0 c1 c2 c3 c4 c5 c6
 go_wp2_with fail
 refine (ud HRR).mono ?_
 rintro e w4 ⟨rfl, hb4⟩
 have HB4 := zab hb4
 clear hb4
 go_wp2_with fail
 go_ret
 exact ⟨rfl, (ud HBW3).trans ((ud HB4).mono (ud HBW3).size)⟩
theorem own_base {w : World} {B : Nat} {e : TypeId} {size : Nat} {v : Value} {n : Nat} {xs : List Value} (h : w.ownsRow B e size v n xs) {k : Nat} (hk : v.ownBlock = some k) : B <= k := by
 rcases h.2 with ⟨rfl, _⟩ | ⟨g, cap, cur, rfl, hg, _⟩
 ·cases hk
 ·cases hk; exact hg
theorem Tryz.infoPostP : (Tryz.prog.info? 103).map (fun i => (i.zero, i.size, i.bytes)) = some (some (.pointer none), 1, 8) := by kernel_rfl
def madePost (w : World) (wb Bp : Nat) (pv lv : Value) (ps : List Nat) (w' : World) : Prop := ∃ (p : PD) (pv' : Value), p.at w' /\ p.m = ⟨0, [], [], 0, [], []⟩ /\ p.toks = [] /\ p.ep = 1 /\ w'.heap[wb]? = some (.cells #[pv', lv] 63 (0, 0)) /\ w'.ownsRow Bp 103 1 pv' (ps.length + 1) ((ps ++ [p.po]).map (fun q => .pointer (some ⟨q, 0, none⟩))) /\ (∀ k, p.foot k -> w.heap.size <= k) /\ zan (fun k => k = wb \/ pv.ownBlock = some k) w w' /\ ∀ k, pv'.ownBlock = some k -> pv.ownBlock = some k \/ w.heap.size <= k
set_option maxRecDepth 8000 in
set_option maxHeartbeats 4000000 in
theorem opened_good (c : Cf) (hc : c.ok) (hr : zcd c.s c.le c.la c.wi c.ke c.qu c.n c.F c.W c.K = true) (a : Option Addr) (cap wb : Nat) (w : World) (hts : TS w a c.n c.F c.W c.K) {pv lv : Value} {ps : List Nat} (hw : w.heap[wb]? = some (.cells #[pv, lv] 63 (0, 0))) {Bp : Nat} (hBp : Bp <= w.heap.size) (hps : w.ownsRow Bp 103 1 pv ps.length (ps.map (fun q => .pointer (some ⟨q, 0, none⟩)))) (hn1 : ps.length + 1 <= maxLen) (hn2 : (ps.length + 1) * 8 <= 140737488355328) :
  Calls Tryz.prog 20 #[.pointer (some ⟨wb, 0, none⟩), .agg #[int i64 c.s, int i64 c.le, int i64 c.la, int i64 c.wi, int i64 c.ke, int i64 c.qu, .slice a c.n cap], int i64 (-1)] w fun e w' => e = .returned (.bool true) /\ madePost w wb Bp pv lv ps w' := by
 obtain ⟨pa, pcap, rfl⟩ := zah hps
 have hwl := zaa hw
 have hnpb : ¬ (Value.slice pa ps.length pcap).ownBlock = some wb := fun e => by
  obtain ⟨cur, hc⟩ := zbp hps e
  rw [hw] at hc
  injection hc with hc; injection hc with _ hc; exact absurd hc (by decide)
 have HW := zab hw
 have HPS := zab hps
 have HBQ := zab hBp
 clear hBp
 clear hw hps
 have hbX : Below w.heap.size w (w.alloc (.cells #[int i64 c.s, int i64 c.le, int i64 c.la, int i64 c.wi, int i64 c.ke, int i64 c.qu, .slice a c.n cap] 27)) := (Below.refl _ _).alloc (Nat.le_refl _) _
 have HCF := zab (CF.made w 27 (0, 0) c.s c.le c.la c.wi c.ke c.qu a c.n cap)
 have HXS : Hid ((w.alloc (.cells #[int i64 c.s, int i64 c.le, int i64 c.la, int i64 c.wi, int i64 c.ke, int i64 c.qu, .slice a c.n cap] 27)).heap.size = w.heap.size + 1) := zbd w _
 have HBX := zab hbX
 clear hbX
 go_enter Tryz.func20, Tryz.ntmps20
 go_wp2_with fail
 generalize (w.alloc (.cells #[int i64 c.s, int i64 c.le, int i64 c.la, int i64 c.wi, int i64 c.ke, int i64 c.qu, .slice a c.n cap] 27)) = X at *
 refine (new_any 0 X (Nat.zero_le _)).mono ?_
 rintro e w1 ⟨rfl, hd1, hb1, hs1⟩
 have HST := zab (stop_any 0 _ newS _ (-1) w1 hd1)
 rw [stop_new] at HST
 have HB1 := zab hb1
 clear hs1 hb1 hd1
 go_wp2_with fail
 refine (ud HST).mono ?_
 rintro e w2 ⟨rfl, hd2, hk2⟩
 have HSD := zab (zet 0 _ newS _ w2 hd2)
 rw [new_free] at HSD
 have hk12 : zan (fun k => k = X.heap.size) X w2 := (zan.of_below (f := fun k => k = X.heap.size) (ud HB1)).trans hk2 (fun i hi e => by
  rcases e with e | e
  ·exact e
  ·cases e)
 have hbX2 : Below X.heap.size X w2 := hk12.below (Nat.le_refl _) (fun k e => by omega)
 have hbw2 : Below w.heap.size w w2 := (ud HBX).trans (hbX2.mono (ud HBX).size)
 have hXl : w.heap.size < X.heap.size := by have := ud HXS; omega
 have HCF2 := zab ((ud HCF).below hbX2 hXl)
 obtain ⟨_, c0, c1, c2, c3, c4, c5, c6⟩ := ud HCF2
 have HBW2 := zab hbw2
 have HBX2 := zab hbX2
 have HD2 := zab hd2
 clear hk2 hk12 hd2 hbX2 hbw2 HST HB1
 go_wp2_with fail
 refine (ud HSD).mono ?_
 rintro e V1 ⟨rfl, hV1⟩
 rw [hV1]
 clear hV1 HSD
 have hzX : w.heap.size <= X.heap.size := Nat.le_of_lt hXl
 have hz2 : w.heap.size <= w2.heap.size := (ud HBW2).size
 have HOP := zab (opens_good c hc hr a cap 0 X.heap.size (.slice none 0 0) w2 (Nat.zero_le _) (ud HD2) (fun w' hk => hts.below ((ud HBW2).trans (hk.below hz2 (fun k e => by
  rcases e with e | e
  ·omega
  ·cases e)))))
 go_wp2_with fail
 refine (ud HOP).mono ?_
 rintro e w3 ⟨i, fs', rfl, hm3, hd3, hk3, hfs3, hmf3⟩
 have hb3 : Below X.heap.size w2 w3 := hk3.below (ud HBX2).size (fun k e => by
  rcases e with e | e
  ·omega
  ·cases e)
 have hbw3 : Below w.heap.size w w3 := (ud HBW2).trans (hb3.mono hzX)
 have hcf3 := (ud HCF2).below hb3 hXl
 obtain ⟨_, d0, d1, d2, d3, d4, d5, d6⟩ := id hcf3
 have HRR := zab (refRight_any c.s c.le c.la c.wi c.ke c.qu a c.n cap c.F c.W c.K w3 (hts.below hbw3))
 rw [hr, show codeOf true = 0 from rfl] at HRR
 have HBW3 := zab hbw3
 have HCF3 := zab hcf3
 have HM3 := zab hm3
 have HD3 := zab hd3
 have HFS3 := zab hfs3
 have HMF3 := zab hmf3
 clear hm3 hd3 hk3 hfs3 hmf3 hb3 hbw3 hcf3 HOP c0 c1 c2 c3 c4 c5 c6
 go_wp2_with fail
 refine (ud HRR).mono ?_
 rintro e w4 ⟨rfl, hb4⟩
 have hbw4 := (ud HBW3).trans (hb4.mono (ud HBW3).size)
 have hl3 : w.heap.size < w3.heap.size := (ud HCF3).1
 have hcf4 := (ud HCF3).below hb4 hl3
 obtain ⟨_, e0, e1, e2, e3, e4, e5, e6⟩ := id hcf4
 have hm4 := (ud HM3).later hb4
 have hd4 := (ud HD3).later hb4
 have hbp : Below w4.heap.size w4 (w4.alloc (zay i.x X.heap.size c (.slice a c.n cap) (.slice none 0 0) (.slice none 0 0) 0)) := (Below.refl _ _).alloc (Nat.le_refl _) _
 have HTL := zab (tells_any (hm4.later hbp) hc (by decide) (by decide) c (zap w4 (zay i.x X.heap.size c (.slice a c.n cap) (.slice none 0 0) (.slice none 0 0) 0)))
 rw [show decide ((0 : Int) < 1) = true from rfl] at HTL
 have HB4 := zab hb4
 have HBW4 := zab hbw4
 have HCF4 := zab hcf4
 have HM4 := zab hm4
 have HD4 := zab hd4
 have HBP := zab hbp
 clear hb4 hbw4 hcf4 hm4 hd4 hbp HRR d0 d1 d2 d3 d4 d5 d6
 unfold zay at HTL
 go_wp2_with fail
 refine (ud HTL).mono ?_
 rintro e w5 ⟨rfl, hp5, hk5⟩
 have hb45 : Below w4.heap.size w4 w5 := (ud HBP).trans (hk5.below (ud HBP).size (fun k e => by omega))
 have hbw5 : Below w.heap.size w w5 := (ud HBW4).trans (hb45.mono (ud HBW4).size)
 have hl4 : w.heap.size < w4.heap.size := (ud HCF4).1
 have hcf5 := (ud HCF4).below hb45 hl4
 obtain ⟨_, f0, f1, f2, f3, f4, f5, f6⟩ := id hcf5
 have p12 : w5.cell? ⟨w4.heap.size, 12, none⟩ = some (int i64 1) := by rw [zac hp5]; rfl
 have HRN := zab (rnew_any c hc a cap 1 w5.drew (hts.below hbw5.drew))
 have hl5 : w.heap.size < w5.heap.size := hcf5.1
 have HCF5 := zab hcf5
 have hp5l := zaa hp5
 have HP5 := zab hp5
 have HB45 := zab hb45
 have HBW5 := zab hbw5
 clear hp5 hk5 hb45 hbw5 hcf5 HTL e0 e1 e2 e3 e4 e5 e6
 go_wp2_with fail
 go_region_held3 (fun w' => w'.cell? ⟨w.heap.size, 0, none⟩ = some (int i64 c.s) /\ w'.cell? ⟨w.heap.size, 1, none⟩ = some (int i64 c.le) /\ w'.cell? ⟨w.heap.size, 2, none⟩ = some (int i64 c.la) /\ w'.cell? ⟨w.heap.size, 3, none⟩ = some (int i64 c.wi) /\ w'.cell? ⟨w.heap.size, 4, none⟩ = some (int i64 c.ke) /\ w'.cell? ⟨w.heap.size, 5, none⟩ = some (int i64 c.qu) /\ w'.cell? ⟨w.heap.size, 6, none⟩ = some (.slice a c.n cap) /\ w'.cell? ⟨w4.heap.size, 12, none⟩ = some (int i64 1)) (go_keep) (first
  | (go_at_call 52; refine (ud HRN).mono ?_; rintro e w6 ⟨r, tvr, rfl, href0, hb0⟩; have hb6 : Below w5.heap.size w5 w6 := ⟨hb0.os, hb0.tape, hb0.output, hb0.size, hb0.block⟩; have HREF : Hid (zbk w5.heap.size w6 r ⟨c, 0, [], [], [], [], 1, 0⟩ tvr (.slice none 0 0) (.slice none 0 0) (.slice none 0 0) (.slice none 0 0)) := href0; clear hb0 href0; have q12 := (hb6.cell (p := ⟨w4.heap.size, 12, none⟩) hp5l).trans p12; obtain ⟨_, h0, h1, h2, h3, h4, h5, h6⟩ := (ud HCF5).below hb6 hl5; have HB6 := zab hb6; clear hb6))
 have hb6 := ud HB6
 have hp6 := (hb6.block w4.heap.size (zaa (ud HP5))).trans (ud HP5)
 have p9 : w6.cell? ⟨w4.heap.size, 9, none⟩ = some (.slice none 0 0) := by rw [zac hp6]; rfl
 have hp6l := zaa hp6
 have hbw6 : Below w.heap.size w w6 := (ud HBW5).trans (hb6.mono (ud HBW5).size)
 have hba : Below w6.heap.size w6 (w6.alloc (.cells #[.pointer (some ⟨r, 0, none⟩)] 108)) := (Below.refl _ _).alloc (Nat.le_refl _) _
 have hnw : ¬ wb = w4.heap.size := by omega
 have HBW6 := zab hbw6
 have HBA := zab hba
 clear hbw6 hba
 have hm0 : 0 < 1 := by decide
 have hm1 : 0 + 1 <= maxLen := by simp [maxLen]
 have hm2 : (0 + 1) * 8 <= 140737488355328 := by omega
 have HP6 := zab hp6
 clear hp6 hb6 HRN p12 q12 f0 f1 f2 f3 f4 f5 f6 h0 h1 h2 h3 h4 h5 h6
 go_wp2_with (first | (at_builtin; refine zbg rfl _ _ 104 rfl 0 108 _ 1 8 Tryz.underlying104 Tryz.infoRefP rfl (by decide) (.slice none 0 0) 0 [] rfl (World.ownsRow_nil _ _ _ _) ⟨w6.heap.size, 0, none⟩ 1 1 [.pointer (some ⟨r, 0, none⟩)] rfl rfl (World.news_of_block (cs := #[.pointer (some ⟨r, 0, none⟩)]) (zap w6 _)) (by intro u hu; simp at hu; subst hu; rfl) hm0 hm1 hm2 (Nat.zero_le _) ?_; intro g7 gcap W7 hown7 hold7 hgrow7 hat7 hlt7; have HO7 := zab hown7; have hb67 : Below w6.heap.size w6 W7 := (ud HBA).grown hgrow7 (ud HBA).size (fun k e => by cases e); have hbw7 : Below w.heap.size w W7 := (ud HBW6).trans (hb67.mono (ud HBW6).size); have hw7 := (hbw7.block wb hwl).trans (ud HW); have k0 : W7.cell? ⟨wb, 0, none⟩ = some (.slice pa ps.length pcap) := (by rw [zac hw7]; rfl); have kf : ∀ j, W7.frozen? ⟨wb, j, none⟩ = false := (fun j => zaz hw7 j); have hp7 := (hb67.block w4.heap.size hp6l).trans (ud HP6); have k9 : W7.cell? ⟨w4.heap.size, 9, none⟩ = some (.slice none 0 0) := (by rw [zac hp7]; rfl); have kp : ∀ j, W7.frozen? ⟨w4.heap.size, j, none⟩ = false := (fun j => zaz hp7 j); have hp7l := zaa hp7; have hw7l := zaa hw7; have hg7 : w6.heap.size <= g7 := (by rcases hat7 with h | h; cases h; rw [h]; exact (ud HBA).size); have hzs : (W7.setCell ⟨w4.heap.size, 9, none⟩ (.slice (some ⟨g7, 0, none⟩) 1 gcap)).heap.size = W7.heap.size := (by simp [World.setCell]); have HZL : Hid (((W7.setCell ⟨w4.heap.size, 9, none⟩ (.slice (some ⟨g7, 0, none⟩) 1 gcap)).alloc (.cells #[.pointer (some ⟨w4.heap.size, 0, none⟩)] 103)).heap[W7.heap.size]? = some (.cells #[.pointer (some ⟨w4.heap.size, 0, none⟩)] 103)) := (by have h := zap (W7.setCell ⟨w4.heap.size, 9, none⟩ (.slice (some ⟨g7, 0, none⟩) 1 gcap)) (.cells #[.pointer (some ⟨w4.heap.size, 0, none⟩)] 103); rw [hzs] at h; exact h); have HKZ : Hid (zan (fun k => k = w4.heap.size) w ((W7.setCell ⟨w4.heap.size, 9, none⟩ (.slice (some ⟨g7, 0, none⟩) 1 gcap)).alloc (.cells #[.pointer (some ⟨w4.heap.size, 0, none⟩)] 103))) := zcm (zag (zan.of_below hbw7) rfl) ((Below.refl _ _).alloc (Nat.le_refl _) _); have HRZ : Hid (((W7.setCell ⟨w4.heap.size, 9, none⟩ (.slice (some ⟨g7, 0, none⟩) 1 gcap)).alloc (.cells #[.pointer (some ⟨w4.heap.size, 0, none⟩)] 103)).ownsRow Bp 103 1 (.slice pa ps.length pcap) ps.length (ps.map (fun q => .pointer (some ⟨q, 0, none⟩)))) := zae (ud HPS) (ud HKZ) (fun k hk e => by have h := own_lt (ud HPS) k hk; omega); clear hzs; have HB67 := zab hb67; have HBW7 := zab hbw7; have HW7 := zab hw7; have HP7 := zab hp7; clear hown7 hold7 hgrow7 hat7 hb67 hbw7 hw7 hp7) | (at_builtin; refine zbg rfl _ _ 60 rfl Bp 103 _ 1 8 Tryz.underlying60 Tryz.infoPostP rfl (by decide) (.slice pa ps.length pcap) ps.length (ps.map (fun q => .pointer (some ⟨q, 0, none⟩))) rfl (ud HRZ) ⟨W7.heap.size, 0, none⟩ 1 1 [.pointer (some ⟨w4.heap.size, 0, none⟩)] rfl rfl (World.news_of_block (cs := #[.pointer (some ⟨w4.heap.size, 0, none⟩)]) (ud HZL)) (by intro u hu; simp at hu; subst hu; rfl) hm0 hn1 hn2 (Nat.le_trans (ud HBQ) (ud HKZ).size) ?_; intro g8 cap8 W8 hown8 hold8 hgrow8 hat8 hlt8; have HO8 := zab hown8; have hk8 : zan (fun k => (Value.slice pa ps.length pcap).ownBlock = some k) ((W7.setCell ⟨w4.heap.size, 9, none⟩ (.slice (some ⟨g7, 0, none⟩) 1 gcap)).alloc (.cells #[.pointer (some ⟨w4.heap.size, 0, none⟩)] 103)) W8 := (zan.refl _ _).grown hgrow8 (fun k e _ => e); have hwz : ((W7.setCell ⟨w4.heap.size, 9, none⟩ (.slice (some ⟨g7, 0, none⟩) 1 gcap)).alloc (.cells #[.pointer (some ⟨w4.heap.size, 0, none⟩)] 103)).heap[wb]? = _ := (ud HKZ).heap (ud HW) hnw; have hw8 := hk8.heap hwz hnpb; have m0 : W8.cell? ⟨wb, 0, none⟩ = some (.slice pa ps.length pcap) := (by rw [zac hw8]; rfl); have mf : ∀ j, W8.frozen? ⟨wb, j, none⟩ = false := (fun j => zaz hw8 j); have hw8l := zaa hw8; have HK8 := zab hk8; have HW8 := zab hw8; have hg8 : (Value.slice pa ps.length pcap).ownBlock = some g8 \/ w.heap.size <= g8 := (by rcases hat8 with h | h; exact .inl h; right; rw [h]; exact (ud HKZ).size); clear hown8 hold8 hgrow8 hat8 hk8 hwz hw8) | go_in)
 have hm7 := ((((ud HM4).later (ud HB45)).later (ud HB6)).later (ud HB67))
 have hd7 := ((((ud HD4).later (ud HB45)).later (ud HB6)).later (ud HB67))
 have hr7 := (ud HREF).later (ud HB67)
 have hz4 : w.heap.size <= w4.heap.size := (ud HBW4).size
 have hz5 : w.heap.size <= w5.heap.size := (ud HBW5).size
 have hz6 : w.heap.size <= w6.heap.size := (ud HBW6).size
 have hz45 : w4.heap.size <= w5.heap.size := (ud HB45).size
 have hz56 : w5.heap.size <= w6.heap.size := (ud HB6).size
 have hml : ∀ k, zcz i k -> k < w4.heap.size := (ud HM4).foot_lt
 have hdl : ∀ k, zen X.heap.size fs' k -> k < w4.heap.size := fun k hk => by
  rcases hk with rfl | hk
  ·exact (ud HD4).lt
  ·exact own_lt (ud HD4).row k hk
 have hs7 : (W7.setCell ⟨w4.heap.size, 9, none⟩ (.slice (some ⟨g7, 0, none⟩) 1 gcap)).heap[w4.heap.size]? = some (zay i.x X.heap.size c (.slice a c.n cap) (.slice (some ⟨g7, 0, none⟩) 1 gcap) (.slice none 0 0) 1) := by
  have hq := ud HP7
  unfold zay at hq ⊢
  exact zbz (i := 9) hq _
 have hkp : zan (fun k => k = w4.heap.size) W7 (W7.setCell ⟨w4.heap.size, 9, none⟩ (.slice (some ⟨g7, 0, none⟩) 1 gcap)) := zag (zan.refl _ _) rfl
 have hrb : ∀ k, rfoot r tvr (.slice none 0 0) (.slice none 0 0) (.slice none 0 0) (.slice none 0 0) k -> w5.heap.size <= k := fun k hk => by
  rcases hk with rfl | hk | hk | hk | hk | hk
  ·exact hr7.base
  ·exact own_base hr7.trow hk
  ·cases hk
  ·cases hk
  ·cases hk
  ·cases hk
 have hp5x : w4.heap.size < w5.heap.size := hp5l
 have hPZ : PD.at ⟨w4.heap.size, X.heap.size, r, i, c, .slice a c.n cap, .slice (some ⟨g7, 0, none⟩) 1 gcap, .slice none 0 0, fs', 1, ⟨0, [], [], 0, [], []⟩, [], 0, w5.heap.size, ⟨c, 0, [], [], [], [], 1, 0⟩, tvr, .slice none 0 0, .slice none 0 0, .slice none 0 0, .slice none 0 0⟩ (W7.setCell ⟨w4.heap.size, 9, none⟩ (.slice (some ⟨g7, 0, none⟩) 1 gcap)) := by
  refine ⟨hs7, hm7.kept hkp (fun k hk e => ?_), hd7.kept hkp (fun k hk e => ?_), zae (ud HO7) hkp (fun k hk e => ?_), World.ownsRow_nil _ _ _ _, hr7.kept hkp (fun k hk e => ?_), (fun k e => by cases e), zed.new hc (right_fits hr), (fun t ht => by cases ht), (fun k hk e => ?_)⟩
  ·have := hml k hk; omega
  ·have := hdl k hk; omega
  ·have hg : g7 = k := Option.some.inj hk; omega
  ·have := hrb k hk; omega
  ·have h1 : k < w4.heap.size := hml k e
   rcases hk with hk | hk | hk | hk | hk
   ·have : k = w4.heap.size := hk; omega
   ·exact (ud HMF3 k e).2 hk
   ·have hg : g7 = k := Option.some.inj hk; omega
   ·cases hk
   ·have := hrb k hk; omega
 have hfr : ∀ k, PD.foot ⟨w4.heap.size, X.heap.size, r, i, c, .slice a c.n cap, .slice (some ⟨g7, 0, none⟩) 1 gcap, .slice none 0 0, fs', 1, ⟨0, [], [], 0, [], []⟩, [], 0, w5.heap.size, ⟨c, 0, [], [], [], [], 1, 0⟩, tvr, .slice none 0 0, .slice none 0 0, .slice none 0 0, .slice none 0 0⟩ k -> w.heap.size <= k := fun k hk => by
  rcases hk with hk | hk | hk | hk | hk | hk
  ·exact Nat.le_trans hz2 (ud HMF3 k hk).1
  ·have : k = w4.heap.size := hk; omega
  ·rcases hk with rfl | hk
   ·exact hzX
   ·rcases ud HFS3 k hk with h | h
    ·cases h
    ·exact Nat.le_trans hz2 h
  ·have hg : g7 = k := Option.some.inj hk; omega
  ·cases hk
  ·have := hrb k hk; omega
 have hpvl := fun k hk => own_lt (ud HPS) k hk
 have hkZA : zan (fun k => k = wb \/ (Value.slice pa ps.length pcap).ownBlock = some k) (W7.setCell ⟨w4.heap.size, 9, none⟩ (.slice (some ⟨g7, 0, none⟩) 1 gcap)) ((W7.setCell ⟨w4.heap.size, 9, none⟩ (.slice (some ⟨g7, 0, none⟩) 1 gcap)).alloc (.cells #[.pointer (some ⟨w4.heap.size, 0, none⟩)] 103)) := zan.of_below ((Below.refl _ _).alloc (Nat.le_refl _) _)
 have hkZ8 : zan (fun k => k = wb \/ (Value.slice pa ps.length pcap).ownBlock = some k) (W7.setCell ⟨w4.heap.size, 9, none⟩ (.slice (some ⟨g7, 0, none⟩) 1 gcap)) W8 := hkZA.trans (ud HK8) (fun k _ h => .inr h)
 have hkZ9 : zan (fun k => k = wb \/ (Value.slice pa ps.length pcap).ownBlock = some k) (W7.setCell ⟨w4.heap.size, 9, none⟩ (.slice (some ⟨g7, 0, none⟩) 1 gcap)) (W8.setCell ⟨wb, 0, none⟩ (.slice (some ⟨g8, 0, none⟩) (ps.length + 1) cap8)) := zag hkZ8 (.inl rfl)
 have hkw : zan (fun k => k = wb \/ (Value.slice pa ps.length pcap).ownBlock = some k) w ((W7.setCell ⟨w4.heap.size, 9, none⟩ (.slice (some ⟨g7, 0, none⟩) 1 gcap)).alloc (.cells #[.pointer (some ⟨w4.heap.size, 0, none⟩)] 103)) := ⟨(ud HKZ).os, (ud HKZ).tape, (ud HKZ).output, (ud HKZ).size, fun k hk _ => (ud HKZ).block k hk (by omega)⟩
 have hkw9 : zan (fun k => k = wb \/ (Value.slice pa ps.length pcap).ownBlock = some k) w (W8.setCell ⟨wb, 0, none⟩ (.slice (some ⟨g8, 0, none⟩) (ps.length + 1) cap8)) := zag (hkw.trans (ud HK8) (fun k _ h => .inr h)) (.inl rfl)
 have hrow9 : (W8.setCell ⟨wb, 0, none⟩ (.slice (some ⟨g8, 0, none⟩) (ps.length + 1) cap8)).ownsRow Bp 103 1 (.slice (some ⟨g8, 0, none⟩) (ps.length + 1) cap8) (ps.length + 1) (ps.map (fun q => .pointer (some ⟨q, 0, none⟩)) ++ [.pointer (some ⟨w4.heap.size, 0, none⟩)]) := zae (ud HO8) (zag (f := fun k => k = wb) (zan.refl _ _) rfl) (fun k hk e => by
  obtain ⟨cur, hcu⟩ := zbp (ud HO8) hk
  have hq := ud HW8
  rw [e, hq] at hcu
  injection hcu with hcu; injection hcu with _ hcu; exact absurd hcu (by decide))
 have hP9 := hPZ.kept hkZ9 (fun k hk e => by
  have h1 := hfr k hk
  rcases e with e | e
  ·omega
  ·have := hpvl k e; omega)
 have hw9 := zbz (i := 0) (ud HW8) (.slice (some ⟨g8, 0, none⟩) (ps.length + 1) cap8)
 go_ret
 exact ⟨rfl, _, _, hP9, rfl, rfl, rfl, hw9, by rw [List.map_append]; exact hrow9, hfr, hkw9, fun k hk => by have hg : g8 = k := Option.some.inj hk; rw [<- hg]; exact hg8⟩
def stepPost (p : PD) (w w' : World) : Prop := ∃ p' : PD, p'.at w' /\ p'.po = p.po /\ p'.ep = p.ep /\ p'.toks.length <= p.toks.length + 1 /\ p'.m.num <= p.m.num + 1 /\ (∀ k, p'.foot k -> p.foot k \/ w.heap.size <= k) /\ zan p.foot w w'
def AnsOf (p : PD) (R : RM) (J : Tk) (C : Int) (jb : Tk) (cd : Int) (m' : MS) : Prop := jb = J /\ cd = C /\ zed p.c p.ep m' R /\ m'.num <= p.m.num + 1
theorem chg_2 (p : PD) {w : World} (h : p.at w) (o : Ops) (ha : -9223372036854775808 <= o.a /\ o.a <= 9223372036854775807) (hT : (⟨o.te, o.tn⟩ : Tok).wf) (hl : p.toks.length <= 1099511627776) (hv : -2147483648 <= o.v /\ o.v <= 2147483647) :
  Calls Tryz.prog 55 #[.pointer (some ⟨p.po, 0, none⟩), .agg #[int i64 2, int i64 o.on, int i64 o.a, int i64 o.b, int i64 o.c, .int .i32 o.v, int i64 o.te, int i64 o.tn, int i64 o.fs, int i64 o.fle, int i64 o.fla, int i64 o.fwi, int i64 o.fke, int i64 o.fqu, .slice o.fa o.fn o.fcap]] w fun e w' => e = .returned (.bool true) /\ stepPost p w w' := by
 obtain ⟨t, ht, HT⟩ := token_any p.toks { o with kd := 2 } ha hT h.twf hl
 refine (changed_no p h o 2 rfl t (fun V hb => HT V p.po p.i.x p.d p.c p.ct p.mv p.td p.ep (h.later hb).head (h.later hb).told) (AnsOf p (p.rm.ingest o.a o.b o.v).1 noTk (p.rm.ingest o.a o.b o.v).2) (fun V hb => ?_) ?_ ?_).mono ?_
 ·have hV := h.later hb
  have hin : ∀ X, Below V.heap.size V X -> Calls Tryz.prog 59 #[.pointer (some ⟨p.i.x, 0, none⟩), int i64 o.a, int i64 o.b, .int .i32 o.v] X fun e V' => ∃ (cd : Int) (m' : MS), e = .returned (int i64 cd) /\ zbb V' p.i p.c p.ep m' /\ zan (zcz p.i) X V' /\ AnsOf p (p.rm.ingest o.a o.b o.v).1 noTk (p.rm.ingest o.a o.b o.v).2 noTk cd m' := fun X hX => by
   have hM := (hV.later hX).mill
   refine (ing_side hM h.sim o.a o.b o.v hv).mono fun e V' ⟨m', e1, e2, e3, e4, e5⟩ => ?_
   exact ⟨_, m', e1, e2, e3, rfl, rfl, e4, e5⟩
  have HX := called_2 p.c hV.head (hV.apart _ (.inl rfl)) hV.mill.foot_lt { o with te := t.ep, tn := t.num } t.ep t.num (fun cd m' => AnsOf p (p.rm.ingest o.a o.b o.v).1 noTk (p.rm.ingest o.a o.b o.v).2 noTk cd m') hin
  exact HX.mono fun e V' ⟨cd, m', e1, e2, e3, e4⟩ => ⟨noTk, cd, m', e1, e2, e3, e4⟩
 ·rintro jb cd m' ⟨rfl, rfl, e3, e4⟩
  refine ⟨_, e3, fun B q V tv nv pv gv kv hr hap hB => ?_⟩
  exact done_2 hr { o with te := t.ep, tn := t.num } t.ep t.num (fun X hX => ring_side (hr.later hX) hap (Nat.le_trans hB hX.size) h.sim o.a o.b o.v hv)
 ·rintro jb cd m' ⟨rfl, rfl, e3, e4⟩
  exact ing13 _ _ _ _
 ·rintro e w' ⟨e1, p', a1, a2, a3, a4, a5, a6, ⟨jb, cd, a7⟩, a8, a9⟩
  exact ⟨e1, p', a1, a2, a5, a6, a7.2.2.2, a8, a9⟩
theorem chg_3 (p : PD) {w : World} (h : p.at w) (o : Ops) (ha : -9223372036854775808 <= o.a /\ o.a <= 9223372036854775807) (hT : (⟨o.te, o.tn⟩ : Tok).wf) (hl : p.toks.length <= 1099511627776) :
  Calls Tryz.prog 55 #[.pointer (some ⟨p.po, 0, none⟩), .agg #[int i64 3, int i64 o.on, int i64 o.a, int i64 o.b, int i64 o.c, .int .i32 o.v, int i64 o.te, int i64 o.tn, int i64 o.fs, int i64 o.fle, int i64 o.fla, int i64 o.fwi, int i64 o.fke, int i64 o.fqu, .slice o.fa o.fn o.fcap]] w fun e w' => e = .returned (.bool true) /\ stepPost p w w' := by
 obtain ⟨t, ht, HT⟩ := token_any p.toks { o with kd := 3 } ha hT h.twf hl
 refine (changed_no p h o 3 rfl t (fun V hb => HT V p.po p.i.x p.d p.c p.ct p.mv p.td p.ep (h.later hb).head (h.later hb).told) (AnsOf p (p.rm.tickL o.a).1 noTk (p.rm.tickL o.a).2) (fun V hb => ?_) ?_ ?_).mono ?_
 ·have hV := h.later hb
  have hin : ∀ X, Below V.heap.size V X -> Calls Tryz.prog 36 #[.pointer (some ⟨p.i.x, 0, none⟩), int i64 o.a] X fun e V' => ∃ (cd : Int) (m' : MS), e = .returned (int i64 cd) /\ zbb V' p.i p.c p.ep m' /\ zan (zcz p.i) X V' /\ AnsOf p (p.rm.tickL o.a).1 noTk (p.rm.tickL o.a).2 noTk cd m' := fun X hX => by
   have hM := (hV.later hX).mill
   refine (tick_side hM h.sim o.a).mono fun e V' ⟨m', e1, e2, e3, e4, e5⟩ => ?_
   exact ⟨_, m', e1, e2, e3, rfl, rfl, e4, e5⟩
  have HX := called_3 p.c hV.head (hV.apart _ (.inl rfl)) hV.mill.foot_lt { o with te := t.ep, tn := t.num } t.ep t.num (fun cd m' => AnsOf p (p.rm.tickL o.a).1 noTk (p.rm.tickL o.a).2 noTk cd m') hin
  exact HX.mono fun e V' ⟨cd, m', e1, e2, e3, e4⟩ => ⟨noTk, cd, m', e1, e2, e3, e4⟩
 ·rintro jb cd m' ⟨rfl, rfl, e3, e4⟩
  refine ⟨_, e3, fun B q V tv nv pv gv kv hr hap hB => ?_⟩
  exact done_3 hr { o with te := t.ep, tn := t.num } t.ep t.num (fun X hX => rtick_side (hr.later hX) hap (Nat.le_trans hB hX.size) h.sim o.a ha)
 ·rintro jb cd m' ⟨rfl, rfl, e3, e4⟩
  exact tick13 _ _
 ·rintro e w' ⟨e1, p', a1, a2, a3, a4, a5, a6, ⟨jb, cd, a7⟩, a8, a9⟩
  exact ⟨e1, p', a1, a2, a5, a6, a7.2.2.2, a8, a9⟩
theorem PD.at.asked {p : PD} {w Z : World} (h : p.at w) (hz : p.at Z) (hs : w.heap.size <= Z.heap.size) {g cap : Nat} (hg : w.heap.size <= g) (hrow : Z.ownsRow 0 108 1 (.slice (some ⟨g, 0, none⟩) 1 cap) 1 [.pointer (some ⟨p.r, 0, none⟩)]) :
  ∃ p' : PD, p'.at (Z.setCell ⟨p.po, 9, none⟩ (.slice (some ⟨g, 0, none⟩) 1 cap)) /\ p'.po = p.po /\ p'.ep = p.ep /\ p'.toks = p.toks /\ p'.m = p.m /\ (∀ k, p'.foot k -> p.foot k \/ w.heap.size <= k) /\ zan (fun k => k = p.po) Z (Z.setCell ⟨p.po, 9, none⟩ (.slice (some ⟨g, 0, none⟩) 1 cap)) := by
 have hkp : zan (fun k => k = p.po) Z (Z.setCell ⟨p.po, 9, none⟩ (.slice (some ⟨g, 0, none⟩) 1 cap)) := zag (zan.refl _ _) rfl
 have hs4 : (Z.setCell ⟨p.po, 9, none⟩ (.slice (some ⟨g, 0, none⟩) 1 cap)).heap[p.po]? = some (zay p.i.x p.d p.c p.ct (.slice (some ⟨g, 0, none⟩) 1 cap) p.td p.ep) := by
  have hq := hz.head
  unfold zay at hq ⊢
  exact zbz (i := 9) hq _
 have hpl := zaa h.head
 have hfl := h.foot_lt
 have hmp := hz.apart p.po (.inl rfl)
 have hrp : ∀ k, rfoot p.r p.rt p.nv p.pv p.gv p.kv k -> ¬ k = p.po := fun k hk e => by
  subst e
  have hh := hz.head
  unfold zay at hh
  rcases hk with hk | hk | hk | hk | hk | hk
  ·have := hz.ref.head; rw [<- hk, hh] at this; injection this with this; injection this with _ this; exact absurd this (by decide)
  ·exact zdq hz.head hz.ref.trow (by decide) hk
  ·exact zdq hz.head hz.ref.nrow (by decide) hk
  ·exact zdq hz.head hz.ref.prow (by decide) hk
  ·exact zdq hz.head hz.ref.grow (by decide) hk
  ·exact zdq hz.head hz.ref.krow (by decide) hk
 refine ⟨⟨p.po, p.d, p.r, p.i, p.c, p.ct, .slice (some ⟨g, 0, none⟩) 1 cap, p.td, p.fs, p.ep, p.m, p.toks, p.B0, p.B1, p.rm, p.rt, p.nv, p.pv, p.gv, p.kv⟩, ⟨hs4, hz.mill.kept hkp (fun k hk e => hmp (by rw [<- e]; exact hk)), hz.disk.kept hkp (fun k hk e => (hz.disk_apart k hk).1 e), zae hrow hkp (fun k hk e => by subst e; exact zdq hz.head hrow (by decide) hk), zae hz.told hkp (fun k hk e => by subst e; exact zdq hz.head hz.told (by decide) hk), hz.ref.kept hkp (fun k hk e => hrp k hk e), hz.hap, hz.sim, hz.twf, fun k hk => ?_⟩, rfl, rfl, rfl, rfl, fun k hk => ?_, hkp⟩
 ·rcases hk with hk | hk | hk | hk | hk
  ·exact hz.apart k (.inl hk)
  ·exact hz.apart k (.inr (.inl hk))
  ·have hgk : g = k := Option.some.inj hk
   exact fun e => by have := hfl k (.inl e); omega
  ·exact hz.apart k (.inr (.inr (.inr (.inl hk))))
  ·exact hz.apart k (.inr (.inr (.inr (.inr hk))))
 ·rcases hk with hk | hk | hk | hk | hk | hk
  ·exact .inl (.inl hk)
  ·exact .inl (.inr (.inl hk))
  ·exact .inl (.inr (.inr (.inl hk)))
  ·have hgk : g = k := Option.some.inj hk
   exact .inr (by omega)
  ·exact .inl (.inr (.inr (.inr (.inr (.inl hk)))))
  ·exact .inl (.inr (.inr (.inr (.inr (.inr hk)))))
theorem ask_5 (p : PD) {w : World} (h : p.at w) (wb : Nat) (o : Ops) :
  Calls Tryz.prog 56 #[.pointer (some ⟨wb, 0, none⟩), .pointer (some ⟨p.po, 0, none⟩), .agg #[int i64 5, int i64 o.on, int i64 o.a, int i64 o.b, int i64 o.c, .int .i32 o.v, int i64 o.te, int i64 o.tn, int i64 o.fs, int i64 o.fle, int i64 o.fla, int i64 o.fwi, int i64 o.fke, int i64 o.fqu, .slice o.fa o.fn o.fcap]] w fun e w' => e = .returned (.bool true) /\ stepPost p w w' := by
 obtain ⟨hsc, hus, hti⟩ := h.sim.stats
 have hub := h.sim.ubound
 have hl4 := h.sim.sok.ok.seg.len400 h.sim.ok
 refine (asked_stats (wb := wb) h.head h.may o (now := p.m.now) (U := zby p.m.L) (T := zej (tightB (zby p.m.L) p.c.qu)) (A1 := zcv p.m.L 1) (A2 := zcv p.m.L 2) (A3 := zcv p.m.L 3) (A4 := p.m.Gl.length) (fun V hb => mstats_any (h.later hb).mill h.sim.ok (by omega) (by omega)) (fun V hb => ?_)).mono ?_
 ·have h1 := h.sim.len; have h2 := h.sim.glen; have h3 := h.sim.plen
  refine (stats_any (h.later hb).ref h.sim.hokr (by omega) (by omega) (by omega) h.sim.nums (by omega)).mono fun e V' ⟨e1, e2⟩ => ⟨?_, e2⟩
  rw [e1, hsc, hus, hti, h.sim.tie.now, h.sim.epo]
 ·rintro e w' ⟨e1, Z, g, cap, rfl, hb, hrow, hg⟩
  obtain ⟨p', a1, a2, a3, a4, a5, a6, a7⟩ := h.asked (h.later hb) hb.size hg hrow
  exact ⟨e1, p', a1, a2, a3, by rw [a4]; omega, by rw [a5]; omega, a6, ((zan.of_below hb).trans a7 (fun k _ e => .inr (.inl e)))⟩
theorem ask_4 (p : PD) {w : World} (h : p.at w) (wb : Nat) (o : Ops) :
  Calls Tryz.prog 56 #[.pointer (some ⟨wb, 0, none⟩), .pointer (some ⟨p.po, 0, none⟩), .agg #[int i64 4, int i64 o.on, int i64 o.a, int i64 o.b, int i64 o.c, .int .i32 o.v, int i64 o.te, int i64 o.tn, int i64 o.fs, int i64 o.fle, int i64 o.fla, int i64 o.fwi, int i64 o.fke, int i64 o.fqu, .slice o.fa o.fn o.fcap]] w fun e w' => e = .returned (.bool true) /\ stepPost p w w' := by
 have hfin : ∀ (Q1 Q2 Q3 Q4 QE : Int), (∀ V, Below w.heap.size w V -> Calls Tryz.prog 60 #[.pointer (some ⟨p.i.x, 0, none⟩), int i64 o.a, int i64 o.b, int i64 o.c] V fun e V' => e = .returned (.tuple #[.agg #[int i64 Q1, int i64 Q2, .int .i32 Q3, .int .i32 Q4], int i64 QE]) /\ Below V.heap.size V V') -> (∀ V, Below w.heap.size w V -> Calls Tryz.prog 107 #[.pointer (some ⟨p.r, 0, none⟩), int i64 o.a, int i64 o.b, int i64 o.c] V fun e V' => e = .returned (.tuple #[.agg #[int i64 Q1, int i64 Q2, .int .i32 Q3, .int .i32 Q4], int i64 QE]) /\ Below V.heap.size V V') -> Calls Tryz.prog 56 #[.pointer (some ⟨wb, 0, none⟩), .pointer (some ⟨p.po, 0, none⟩), .agg #[int i64 4, int i64 o.on, int i64 o.a, int i64 o.b, int i64 o.c, .int .i32 o.v, int i64 o.te, int i64 o.tn, int i64 o.fs, int i64 o.fle, int i64 o.fla, int i64 o.fwi, int i64 o.fke, int i64 o.fqu, .slice o.fa o.fn o.fcap]] w fun e w' => e = .returned (.bool true) /\ stepPost p w w' := fun Q1 Q2 Q3 Q4 QE H1 H2 => by
  refine (asked_query (wb := wb) h.head h.may o H1 H2).mono ?_
  rintro e w' ⟨e1, Z, g, cap, rfl, hb, hrow, hg⟩
  obtain ⟨p', a1, a2, a3, a4, a5, a6, a7⟩ := h.asked (h.later hb) hb.size hg hrow
  exact ⟨e1, p', a1, a2, a3, by rw [a4]; omega, by rw [a5]; omega, a6, ((zan.of_below hb).trans a7 (fun k _ e => .inr (.inl e)))⟩
 have h1 := h.sim.len; have h2 := h.sim.glen; have h3 := h.sim.plen
 by_cases hb : o.a < -1 \/ p.c.n <= o.a \/ o.b < 0 \/ 4 <= o.b \/ o.c < 0 \/ 100000 < o.c
 ·refine hfin 0 0 0 0 2 (fun V hV => mquery_bad (h.later hV).mill h.sim.ok o.a o.b o.c hb) (fun V hV => ?_)
  refine (rquery_any (h.later hV).ref h.sim.hokr (by omega) (by omega) (by omega) h.sim.nums h.sim.time o.a o.b o.c).mono fun e V' ⟨e1, e2⟩ => ⟨?_, e2⟩
  rw [e1, query_bad (by rw [h.sim.tie.hc]; exact hb)]
  rfl
 ·refine hfin _ _ _ _ _ (fun V hV => mquery_any (h.later hV).mill h.sim.ok h.sim.sok.ok.now o.a o.b o.c (by omega) (by omega) (by omega)) (fun V hV => ?_)
  refine (rquery_any (h.later hV).ref h.sim.hokr (by omega) (by omega) (by omega) h.sim.nums h.sim.time o.a o.b o.c).mono fun e V' ⟨e1, e2⟩ => ⟨?_, e2⟩
  rw [e1, h.sim.query (by rw [h.sim.tie.hc]; exact hb)]
  rfl
end Go.Proofs.YtpbimdkclnekeaaGreat

namespace Go.Proofs.YtpbimdkclnekeaaGreat
open Go.RowKit Go.Maps Go.Shelf
set_option linter.unusedVariables false
def lawT (t : TypeId) : Prop := t = 63 \/ t = 103 \/ t = 55 \/ t = 51
theorem PD.at.not_law {p : PD} {w : World} (h : p.at w) {k : Nat} {cs : Array Value} {t : TypeId} (hk : w.heap[k]? = some (.cells cs t (0, 0))) (ht : lawT t) : ¬ p.foot k := fun hf => by
 have no : ∀ cs' t', w.heap[k]? = some (.cells cs' t' (0, 0)) -> ¬ lawT t' -> False := fun cs' t' h' n => by
  rw [hk] at h'; injection h' with h'; injection h' with _ h'; exact n (h' ▸ ht)
 have row : ∀ {B size n : Nat} {e : TypeId} {v : Value} {xs : List Value}, w.ownsRow B e size v n xs -> v.ownBlock = some k -> ¬ lawT e -> False := fun hr hv n => by
  obtain ⟨cur, hc⟩ := zbp hr hv; exact no _ _ hc n
 rcases hf with hf | hf | hf | hf | hf | hf
 ·rcases hf with hf | hf | hf
  ·subst hf; exact no _ _ h.mill.head (by unfold lawT; decide)
  ·rcases hf with hf | hf | hf | hf
   ·subst hf; exact no _ _ h.mill.set.head (by unfold lawT; decide)
   ·exact row h.mill.set.trow hf (by unfold lawT; decide)
   ·exact zdb (live_map.1 h.mill.set.live) hk hf.symm
   ·exact zdb h.mill.set.gone hk hf.symm
  ·rcases hf with hf | hf | hf
   ·subst hf; exact no _ _ h.mill.board.head (by unfold lawT; decide)
   ·exact zdb h.mill.board.tasks hk hf.symm
   ·exact zdb h.mill.board.leases hk hf.symm
 ·subst hf; have hh := h.head; unfold zay at hh; exact no _ _ hh (by unfold lawT; decide)
 ·rcases hf with hf | hf
  ·subst hf; exact no _ _ h.disk.head (by unfold lawT; decide)
  ·exact row h.disk.row hf (by unfold lawT; decide)
 ·exact row h.may hf (by unfold lawT; decide)
 ·exact row h.told hf (by unfold lawT; decide)
 ·rcases hf with hf | hf | hf | hf | hf | hf
  ·subst hf; exact no _ _ h.ref.head (by unfold lawT; decide)
  ·exact row h.ref.trow hf (by unfold lawT; decide)
  ·exact row h.ref.nrow hf (by unfold lawT; decide)
  ·exact row h.ref.prow hf (by unfold lawT; decide)
  ·exact row h.ref.grow hf (by unfold lawT; decide)
  ·exact row h.ref.krow hf (by unfold lawT; decide)
theorem Lists.kept {f : Nat -> Prop} {B : Nat} {w w' : World} {lv : Value} {kn : List Value} {q : Nat} (h : Lists B w lv kn q) (hk : zan f w w') (hn : ∀ k cs t, w.heap[k]? = some (.cells cs t (0, 0)) -> (t = 55 \/ t = 51) -> ¬ f k) : Lists B w' lv kn q :=
 ⟨zae h.row hk (fun k hb => by obtain ⟨cur, hc⟩ := zbp h.row hb; exact hn _ _ _ hc (.inl rfl)), h.four, fun j v hj => by
  obtain ⟨n, h1, h2⟩ := h.marks j v hj
  exact ⟨n, h1, zae h2 hk (fun k hb => by obtain ⟨cur, hc⟩ := zbp h2 hb; exact hn _ _ _ hc (.inr rfl))⟩⟩
structure Inv (B : Nat) (w : World) (wb : Nat) (pv lv : Value) (ps : List PD) (kn : List Value) (q : Nat) : Prop where
 head : w.heap[wb]? = some (.cells #[pv, lv] 63 (0, 0))
 row : w.ownsRow B 103 1 pv (ps.map PD.po).length ((ps.map PD.po).map (fun q => .pointer (some ⟨q, 0, none⟩)))
 lists : Lists B w lv kn q
 all : ∀ p ∈ ps, p.at w /\ (∀ k, p.foot k -> B <= k) /\ p.ep = 1
 apart : ps.Pairwise (fun p q => ∀ k, p.foot k -> ¬ q.foot k)
theorem Inv.later {B : Nat} {w w' : World} {wb : Nat} {pv lv : Value} {ps : List PD} {kn : List Value} {q : Nat} (h : Inv B w wb pv lv ps kn q) (hb : Below w.heap.size w w') : Inv B w' wb pv lv ps kn q :=
 ⟨(hb.block wb (zaa h.head)).trans h.head, zae h.row (zan.of_below (f := fun _ => False) hb) (fun _ _ hh => hh), h.lists.later hb, fun p hp => ⟨(h.all p hp).1.later hb, (h.all p hp).2⟩, h.apart⟩
theorem Inv.upd {B : Nat} {w w' : World} {wb : Nat} {pv lv : Value} {l1 l2 : List PD} {p p' : PD} {kn : List Value} {q : Nat} (h : Inv B w wb pv lv (l1 ++ p :: l2) kn q) {S : Nat} (hBS : B <= S) (hS : ∀ z ∈ l1 ++ p :: l2, ∀ k, z.foot k -> k < S) (hp' : p'.at w') (ho : p'.po = p.po) (he : p'.ep = p.ep) (hf : ∀ k, p'.foot k -> p.foot k \/ S <= k) (hk : zan p.foot w w') : Inv B w' wb pv lv (l1 ++ p' :: l2) kn q := by
 have hp := h.all p (by simp)
 have hap := h.apart
 rw [List.pairwise_append, List.pairwise_cons] at hap
 obtain ⟨a1, ⟨a2, a3⟩, a4⟩ := hap
 have e1 : (l1 ++ p' :: l2).map PD.po = (l1 ++ p :: l2).map PD.po := by simp [ho]
 refine ⟨hk.heap h.head (hp.1.not_law h.head (.inl rfl)), ?_, ?_, ?_, ?_⟩
 ·rw [e1]
  exact zae h.row hk (fun k hb => by obtain ⟨cur, hc⟩ := zbp h.row hb; exact hp.1.not_law hc (.inr (.inl rfl)))
 ·exact h.lists.kept hk (fun k cs t hc ht => hp.1.not_law hc (ht.elim (fun e => .inr (.inr (.inl e))) (fun e => .inr (.inr (.inr e)))))
 ·intro z hz
  rcases List.mem_append.1 hz with hz | hz
  ·have hy := h.all z (by simp [hz])
   exact ⟨hy.1.kept hk (fun k hf => a4 z hz p (by simp) k hf), hy.2⟩
  ·rcases List.mem_cons.1 hz with rfl | hz
   ·refine ⟨hp', fun k hh => ?_, he.trans hp.2.2⟩
    rcases hf k hh with hh | hh
    ·exact hp.2.1 k hh
    ·omega
   ·have hy := h.all z (by simp [hz])
    exact ⟨hy.1.kept hk (fun k hf hg => a2 z hz k hg hf), hy.2⟩
 ·rw [List.pairwise_append, List.pairwise_cons]
  refine ⟨a1, ⟨fun z hz k hk1 hk2 => ?_, a3⟩, fun z hz y hy => ?_⟩
  ·have := hS z (by simp [hz]) k hk2
   rcases hf k hk1 with hh | hh
   ·exact a2 z hz k hh hk2
   ·omega
  ·rcases List.mem_cons.1 hy with rfl | hy
   ·intro k hk1 hk2
    have := hS z (by simp [hz]) k hk1
    rcases hf k hk2 with hh | hh
    ·exact a4 z hz p (by simp) k hk1 hh
    ·omega
   ·exact a4 z hz y (by simp [hy])
theorem Inv.more {B : Nat} {w w' : World} {wb : Nat} {pv lv : Value} {ps : List PD} {kn : List Value} {q : Nat} (h : Inv B w wb pv lv ps kn q) (hB : B <= w.heap.size) (hm : madePost w wb B pv lv (ps.map PD.po) w') : ∃ p pv', Inv B w' wb pv' lv (ps ++ [p]) kn q /\ p.toks = [] /\ p.m.num = 0 /\ zan (fun k => k = wb \/ pv.ownBlock = some k) w w' := by
 obtain ⟨p, pv', h1, h2, h3, h4, h5, h6, h7, h8, h9⟩ := hm
 have hno : ∀ k, k = wb \/ pv.ownBlock = some k -> ∃ cs t, w.heap[k]? = some (.cells cs t (0, 0)) /\ (t = 63 \/ t = 103) := fun k e => by
  rcases e with rfl | e
  ·exact ⟨_, _, h.head, .inl rfl⟩
  ·obtain ⟨cur, hc⟩ := zbp h.row e; exact ⟨_, _, hc, .inr rfl⟩
 refine ⟨p, pv', ⟨h5, by simpa using h6, h.lists.kept h8 (fun k cs t hc ht e => ?_), fun z hz => ?_, ?_⟩, h3, by rw [h2], h8⟩
 ·obtain ⟨cs', t', hc', ht'⟩ := hno k e
  rw [hc] at hc'; injection hc' with hc'; injection hc' with _ hc'
  subst hc'
  rcases ht with rfl | rfl <;> rcases ht' with e' | e' <;> exact absurd e' (by decide)
 ·rcases List.mem_append.1 hz with hz | hz
  ·have hy := h.all z hz
   refine ⟨hy.1.kept h8 (fun k hf e => ?_), hy.2⟩
   obtain ⟨cs', t', hc', ht'⟩ := hno k e
   exact hy.1.not_law hc' (ht'.elim .inl (fun e => .inr (.inl e))) hf
  ·obtain rfl := List.mem_singleton.1 hz
   exact ⟨h1, fun k hk => by have := h7 k hk; omega, h4⟩
 ·rw [List.pairwise_append]
  refine ⟨h.apart, List.pairwise_singleton _ _, fun z hz y hy k hk1 hk2 => ?_⟩
  obtain rfl := List.mem_singleton.1 hy
  have := (h.all z hz).1.foot_lt k hk1
  have := h7 k hk2
  omega
end Go.Proofs.YtpbimdkclnekeaaGreat

namespace Go.Proofs.YtpbimdkclnekeaaGreat
open Value (int)
open IntKind (i64)
open Go.RowKit Go.Maps Go.Shelf
set_option linter.unusedVariables false
def Good (w : World) (k : Nat) (W : World) : Prop := ∃ pv lv ps kn q, Inv w.heap.size W w.heap.size pv lv ps kn q /\ ps.length <= k /\ q <= k /\ (∀ p ∈ ps, p.toks.length <= k /\ p.m.num <= (k : Int)) /\ Below w.heap.size w W
theorem gone_no {p : PD} {w : World} (h : p.at w) : w.cell? ⟨p.po, 14, none⟩ = some (.bool false) := by
 have h1 := h.head
 unfold zay at h1
 rw [zac h1]; rfl
theorem fst_ts {W : World} {ta : Nat} (h : W.heap[ta]? = some (.cells #[int i64 (-1), int i64 1, int i64 0] 66 (0, 0))) : TS W (some ⟨ta, 0, none⟩) 1 (fun _ => -1) (fun _ => 1) (fun _ => 0) := fun _ => by
 refine ⟨ta, 0, rfl, zaa h, fun i hi => ?_⟩
 obtain rfl : i = 0 := by omega
 exact ⟨by rw [zac h]; rfl, by rw [zac h]; rfl, by rw [zac h]; rfl⟩
theorem right_one : zcd 1 1 0 1 0 9 1 (fun _ => -1) (fun _ => 1) (fun _ => 0) = true := by decide
theorem Good.later {w W W' : World} {k : Nat} (h : Good w k W) (h' : Below W.heap.size W W') : Good w k W' := by
 obtain ⟨pv, lv, ps, kn, q, hI, hl, hq, ht, hb⟩ := h
 exact ⟨pv, lv, ps, kn, q, hI.later h', hl, hq, ht, hb.trans (h'.mono hb.size)⟩
theorem Good.next {w W : World} {k : Nat} (h : Good w k W) : Good w (k + 1) W := by
 obtain ⟨pv, lv, ps, kn, q, hI, hl, hq, ht, hb⟩ := h
 exact ⟨pv, lv, ps, kn, q, hI, by omega, by omega, fun p hp => by have := ht p hp; omega, hb⟩
theorem good_upd {w W w' : World} {k : Nat} {pv lv : Value} {l1 l2 : List PD} {p : PD} {kn : List Value} {q : Nat} (h : Inv w.heap.size W w.heap.size pv lv (l1 ++ p :: l2) kn q) (hl : (l1 ++ p :: l2).length <= k) (hq : q <= k) (ht : ∀ z ∈ l1 ++ p :: l2, z.toks.length <= k /\ z.m.num <= (k : Int)) (hb : Below w.heap.size w W) (hs : stepPost p W w') : Good w (k + 1) w' := by
 obtain ⟨p', a1, a2, a3, a4, a5, a6, a7⟩ := hs
 have hp := h.all p (by simp)
 have htp := ht p (by simp)
 refine ⟨pv, lv, l1 ++ p' :: l2, kn, q, h.upd hb.size (fun z hz k hk => (h.all z hz).1.foot_lt k hk) a1 a2 a3 a6 a7, by simp at hl ⊢; omega, by omega, fun z hz => ?_, hb.trans (a7.below hb.size (fun j e => hp.2.1 j e))⟩
 rcases List.mem_append.1 hz with hz | hz
 ·have := ht z (by simp [hz]); omega
 ·rcases List.mem_cons.1 hz with rfl | hz
  ·omega
  ·have := ht z (by simp [hz]); omega
theorem good_opens {w W : World} {k : Nat} (o : Ops) (hf : o.fits) (F Wd K : Nat -> Int) (hts : TS w o.fa o.fn F Wd K) (hk : k + 1 <= 1099511627776) (hg : Good w k W) :
  Calls Tryz.prog 20 #[.pointer (some ⟨w.heap.size, 0, none⟩), .agg #[int i64 o.fs, int i64 o.fle, int i64 o.fla, int i64 o.fwi, int i64 o.fke, int i64 o.fqu, .slice o.fa o.fn o.fcap], int i64 (-1)] W fun e w' => e = .returned (.bool true) /\ Good w (k + 1) w' := by
 have hg0 := hg
 obtain ⟨pv, lv, ps, kn, q, hI, hl, hq, ht, hb⟩ := hg
 have htW := hts.below hb
 cases hr : zcd o.fs o.fle o.fla o.fwi o.fke o.fqu o.fn F Wd K with
 | false =>
  exact (opened_bad ⟨o.fs, o.fle, o.fla, o.fwi, o.fke, o.fqu, o.fn, F, Wd, K⟩ hf.size hr o.fa o.fcap w.heap.size W htW).mono fun e w' ⟨e1, e2⟩ => ⟨e1, (hg0.later e2).next⟩
 | true =>
  refine (opened_good ⟨o.fs, o.fle, o.fla, o.fwi, o.fke, o.fqu, o.fn, F, Wd, K⟩ (right_ok hr) hr o.fa o.fcap w.heap.size W htW hI.head hb.size hI.row (by simp [maxLen]; omega) (by simp; omega)).mono ?_
  rintro e w' ⟨e1, hm⟩
  obtain ⟨p, pv', h1, h2, h3, h4⟩ := hI.more hb.size hm
  refine ⟨e1, pv', lv, ps ++ [p], kn, q, h1, by simp; omega, by omega, fun z hz => ?_, hb.trans (h4.below hb.size (fun j e => ?_))⟩
  ·rcases List.mem_append.1 hz with hz | hz
   ·have := ht z hz; omega
   ·obtain rfl := List.mem_singleton.1 hz
    rw [h2, h3]; simp; omega
  ·rcases e with rfl | e
   ·exact Nat.le_refl _
   ·exact own_base hI.row e
theorem takes_keeps (w : World) (n : Nat) (G : Nat -> Ops) (T : Nat -> (Nat -> Int) × (Nat -> Int) × (Nat -> Int)) (la : Int) (hla : la <= 5) (hn : n <= 1099511627776) (hT : ∀ i, i < n -> TS w (G i).fa (G i).fn (T i).1 (T i).2.1 (T i).2.2) (hG : ∀ i, i < n -> (G i).fits) :
  Keeps w n G la (Good w) where
 low := fun k W ⟨_, _, _, _, _, _, _, _, _, h⟩ => h
 looks := fun k W hk ⟨pv, lv, ps, kn, q, hI, hl, hq, ht, hb⟩ => looksJ_any hI.head hI.lists (by omega)
 later := fun k W W' h h' => h.later h'
 next := fun k W h => h.next
 start := fun W hb hw => ⟨_, _, [], [], 0, ⟨hw, World.ownsRow_nil _ _ _ _, ⟨World.ownsRow_nil _ _ _ _, rfl, fun j v hj => by simp at hj⟩, (fun p hp => by cases hp), List.Pairwise.nil⟩, Nat.le_refl _, Nat.le_refl _, (fun p hp => by cases hp), hb⟩
 fst := fun W ta hb hw ht => by
  refine (opened_good ⟨1, 1, 0, 1, 0, 9, 1, fun _ => -1, fun _ => 1, fun _ => 0⟩ (right_ok right_one) right_one (some ⟨ta, 0, none⟩) 1 w.heap.size W (fst_ts ht) (ps := []) hw hb.size (World.ownsRow_nil _ _ _ _) (by simp [maxLen]) (by simp)).mono ?_
  rintro e w' ⟨e1, p, pv', h1, h2, h3, h4, h5, h6, h7, h8, h9⟩
  obtain ⟨pa, pc, rfl⟩ := zah h6
  refine ⟨e1, hb.trans (h8.below hb.size (fun j e => ?_)), pa, pc, h5⟩
  rcases e with rfl | e
  ·exact Nat.le_refl _
  ·cases e
 opens := fun k W hk h1 hg => by
  rw [h1]
  refine stp_1 (G k) _ (fun w4 hb4 => ?_)
  exact good_opens (G k) (hG k hk) _ _ _ (hT k hk) (by omega) (hg.later hb4)
 steps := fun k W hk h1 hle hg => by
  have hg0 := hg
  obtain ⟨pv, lv, ps, kn, q, hI, hl, hq, ht, hb⟩ := hg
  have hfit := hG k hk
  have hT2 : (⟨(G k).te, (G k).tn⟩ : Tok).wf := ⟨hfit.te, hfit.tn⟩
  by_cases h0 : ps = []
  ·subst h0
   have hI0 := hI
   obtain ⟨pa, pc, hpv⟩ := zah hI.row
   simp at hpv
   subst hpv
   exact (stp_none hI.head (G k) (G k).kd h1 (by omega)).mono fun e w' ⟨e1, e2⟩ => ⟨e1, (hg0.later e2).next⟩
  ·have hpos : 0 < ps.length := List.length_pos_iff.2 h0
   obtain ⟨i, hi, hpk⟩ := pick_at (G k).on (ps.map PD.po).length hfit.on (by simpa using hpos)
   have hi' : i < ps.length := by simpa using hi
   have hpi : (ps.map PD.po)[i]? = some ps[i].po := by simp [hi']
   have hmem : ps[i] ∈ ps := List.getElem_mem hi'
   generalize ps[i] = p at *
   obtain ⟨l1, l2, rfl⟩ := List.append_of_mem hmem
   have hp := hI.all p hmem
   have hgo := gone_no hp.1
   have hpl := zaa hp.1.head
   have htp := ht p hmem
   have hlow : ∀ w4, Below W.heap.size W w4 -> Inv w.heap.size w4 w.heap.size pv lv (l1 ++ p :: l2) kn q /\ Below w.heap.size w w4 /\ p.at w4 := fun w4 h4 => ⟨hI.later h4, hb.trans (h4.mono hb.size), hp.1.later h4⟩
   by_cases h2 : (G k).kd = 2
   ·rw [h2]
    refine stp_2 hI.head hI.row hpi hpl hgo (G k) hpk _ (fun w4 h4 => ?_)
    obtain ⟨hI4, hb4, hp4⟩ := hlow w4 h4
    exact (chg_2 p hp4 (G k) hfit.a hT2 (by omega) hfit.v).mono fun e w' ⟨e1, e2⟩ => ⟨e1, good_upd hI4 hl hq ht hb4 e2⟩
   by_cases h3 : (G k).kd = 3
   ·rw [h3]
    refine stp_3 hI.head hI.row hpi hpl hgo (G k) hpk _ (fun w4 h4 => ?_)
    obtain ⟨hI4, hb4, hp4⟩ := hlow w4 h4
    exact (chg_3 p hp4 (G k) hfit.a hT2 (by omega)).mono fun e w' ⟨e1, e2⟩ => ⟨e1, good_upd hI4 hl hq ht hb4 e2⟩
   by_cases h4 : (G k).kd = 4
   ·rw [h4]
    refine stp_4 hI.head hI.row hpi hpl hgo (G k) hpk _ (fun w4 h4 => ?_)
    obtain ⟨hI4, hb4, hp4⟩ := hlow w4 h4
    exact (ask_4 p hp4 _ (G k)).mono fun e w' ⟨e1, e2⟩ => ⟨e1, good_upd hI4 hl hq ht hb4 e2⟩
   by_cases h5 : (G k).kd = 5
   ·rw [h5]
    refine stp_5 hI.head hI.row hpi hpl hgo (G k) hpk _ (fun w4 h4 => ?_)
    obtain ⟨hI4, hb4, hp4⟩ := hlow w4 h4
    exact (ask_5 p hp4 _ (G k)).mono fun e w' ⟨e1, e2⟩ => ⟨e1, good_upd hI4 hl hq ht hb4 e2⟩
   exact (stp_other hI.head hI.row hpi hpl hgo (G k) hpk (G k).kd (by omega)).mono fun e w' ⟨e1, e2⟩ => ⟨e1, (hg0.later e2).next⟩
theorem takes_any (a : Option Addr) (n cap : Nat) (G : Nat -> Ops) (T : Nat -> (Nat -> Int) × (Nat -> Int) × (Nat -> Int)) (w : World) (h : OS w a n G) (hn : n <= 1099511627776) (hT : ∀ i, i < n -> TS w (G i).fa (G i).fn (T i).1 (T i).2.1 (T i).2.2) (hG : ∀ i, i < n -> (G i).fits) :
  Calls Tryz.prog 3 #[.slice a n cap] w fun e w' => e = .returned (.bool true) /\ Below w.heap.size w w' := by
 have HP := zab (plays_gen a n cap G 5 (by omega) w h hn _ (takes_keeps w n G T 5 (by omega) hn hT hG))
 clear h hn hT hG
 go_enter Tryz.func3, Tryz.ntmps3
 go_wp2_with (first | (go_at_call 9; refine (ud HP).mono ?_; rintro e w' ⟨rfl, hb⟩) | fail)
 go_ret
 exact ⟨rfl, hb⟩
end Go.Proofs.YtpbimdkclnekeaaGreat

namespace Go.Proofs.YtpbimdkclnekeaaGreat
open Go.ChangeShapes Go.WideShapes Go.ChangeAt Go.RowKit
set_option linter.unusedVariables false
theorem takesOwn : ownKnob Tryz.prog.godebug = none := by kernel_rfl
theorem takesLaidOut : laidOutB Tryz.prog = true := by kernel_rfl
set_option maxRecDepth 100000 in
theorem takesLifted (os : Os) (started : os.Started) (H : Type) (enc : TypeId × Value -> H) :
  ReturnsInHanded {} Tryz.checked os 3 .any (Rows.takesSpec.pre6 enc Tryz.prog Tryz.f3 Rows.takesRow.domain false) (Rows.takesSpec.post enc Tryz.prog Tryz.f3 false true false false) := by
 refine returnsInHanded_of_change_sized (C := Tryz.checked) takesOwn started (by kernel_rfl) Tryz.func3
  (ChangeSpec.witness6 (enc := enc) (C := Tryz.checked) false ⟨#[], #[.slice none 0 0], []⟩ 8 (by kernel_rfl) (by kernel_rfl) (by kernel_rfl) (by kernel_rfl)) ?_
 intro W base args ds gs before hval0 hW hcnd hsz0 _
 have hval : ∀ (j : Nat) t v, Tryz.f3.params[j]? = some t -> args[j]? = some v -> Value.okWide Tryz.prog W .any base t v := hval0
 have hsz : (DataW.weightsEach Tryz.prog (Tryz.f3.params.toList ++ Rows.takesSpec.plain.varTypes Tryz.prog) (ds ++ gs)).all (· <= reachBytes) = true := hsz0
 have hW' := hW
 obtain ⟨p, q, hA0, hV, rfl, hfz, hnd⟩ := hW
 have hA : DataW.TrodAll enc Tryz.prog W 0 (fun _ => true) true Tryz.f3.params.toList args.toList ds p := hA0
 rw [Tryz.params3] at hA hval hsz
 obtain ⟨v0, vs0, d0, ds0, p0, q0, hargs, rfl, rfl, h0, r0⟩ := trodAll_cons hA
 obtain ⟨rfl, rfl, rfl⟩ := trodAll_nil r0
 obtain rfl : args = #[v0] := by cases args; simp_all
 obtain ⟨rfl, rfl⟩ := trodVars_none hV
 obtain ⟨a0, len0, cap0, rfl⟩ := okWide_slice Tryz.underlying22 (hval 0 22 v0 rfl rfl)
 have k0 := h0
 have lt0 : ∀ x ∈ p0, x.block < W.heap.size := by obtain ⟨m, hm⟩ := k0; exact DataW.trod_lt m _ _ _ hm
 obtain ⟨fuel, hf⟩ := h0
 have hf' : DataW.trod enc Tryz.prog W 0 (fun _ => true) true fuel 22 [.slice a0 len0 cap0] = some (d0, p0) := by simpa [Value.cells] using hf
 obtain ⟨a, n, cap, G, T, hcs, has, hn, hT, hG⟩ := open_ops hf' (fun y hy => by
  have := List.all_eq_true.1 hsz y (DataW.weights_mem_each (j := 0) rfl rfl y hy)
  simpa using this)
 simp at hcs
 obtain ⟨rfl, rfl, rfl⟩ := hcs
 clear hA0 hval0 hf hf'
 refine (takes_any a0 len0 cap0 G T W has hn hT hG).mono fun e W' ⟨he, bel⟩ => ?_
 subst he
 exact ⟨_, rfl, _, _, _, [], _, [], hW', trodAll_mk1 (shut_bool Tryz.underlying4 _), (trodAll_cons_mk (Below.trod takesLaidOut (by kernel_rfl) (of_decide_eq_true (by kernel_rfl)) k0 bel lt0) trodAll_mk0), rfl, bel.frame _, fun h => by cases h⟩
theorem takes_holds : Rows.TakesSaid :=
 OpenClaim.holds_of_wide 3 Tryz.f3 rfl rfl rfl rfl rfl rfl rfl ⟨rfl, rfl, rfl, rfl, rfl⟩ rfl rfl rfl rfl rfl (by kernel_rfl) Tryz.func3 (by kernel_rfl)
  (of_decide_eq_true (by kernel_rfl)) (by unfold Func.isWrapper; first | (rw [if_pos (by decide +kernel)]; kernel_rfl) | (rw [if_neg (by decide +kernel)]; exact ⟨rfl, rfl⟩))
  (fun os started H enc _ => takesLifted os started H enc)
#print axioms takes_holds
end Go.Proofs.YtpbimdkclnekeaaGreat
