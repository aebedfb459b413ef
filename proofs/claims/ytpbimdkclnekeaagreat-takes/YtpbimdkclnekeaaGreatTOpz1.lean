import Derived.Test.YtpbimdkclnekeaaGreatTOpz0
import Derived.Test.YtpbimdkclnekeaaGreatTConf3
import Derived.Deep.RegionHeld3

namespace Go.Proofs.YtpbimdkclnekeaaGreat
open Value (int)
open IntKind (i64)
open Go.RowKit Go.Maps Go.Shelf
set_option linter.unusedVariables false
def opNm : ByteArray := ⟨#[111, 112, 101, 110, 105, 110, 103, 115]⟩
def opDt : ByteArray := ⟨#[43]⟩
def opS1 : DS := ⟨[⟨opNm, opDt, 0⟩], -1, false⟩
def opS2 : DS := ⟨[⟨opNm, opDt, 1⟩], -1, false⟩
theorem op_eq : eqS opNm opNm = true := by simp [eqS]
theorem op_place : place opS1.files opNm = some 0 := by
 have := (placeI_some (l := opS1.files) (name := opNm) (i := 0) (f := ⟨opNm, opDt, 0⟩) rfl op_eq (fun j g hj _ => by omega)).1
 exact this
theorem op_place2 : place opS2.files opNm = some 0 := by
 have := (placeI_some (l := opS2.files) (name := opNm) (i := 0) (f := ⟨opNm, opDt, 1⟩) rfl op_eq (fun j g hj _ => by omega)).1
 exact this
theorem op_step : zav newS = newS := by simp [zav, zas, newS]
theorem op_step1 : zav opS1 = opS1 := by simp [zav, zas, opS1]
theorem op_a : zee newS opNm opDt = opS1 := by
 rw [afterAppend_none (by simp [zas, newS]) (by simp [place, zeh, newS]), op_step]; rfl
theorem op_s : afterSync opS1 opNm = opS2 := by
 rw [afterSync_some (i := 0) (f := ⟨opNm, opDt, 0⟩) (by simp [zas, opS1]) op_place rfl, op_step1]; rfl
theorem op_ok : DOk opS1 10 := by
 refine ⟨by show (-1 : Int) <= -1; omega, by show (-1 : Int) <= 9223372036854775807; omega, by show 1 <= 10; omega, fun f hf => ?_⟩
 have : f = ⟨opNm, opDt, 0⟩ := by simpa [opS1] using hf
 subst this
 exact ⟨Nat.zero_le _, by show 1 <= 10; omega⟩
theorem op_r : readD opS2 opNm = opDt := by unfold readD; rw [op_place2]; rfl
set_option maxHeartbeats 2000000 in
theorem begin_any (B p : Nat) (fs : Value) (w : World) (hB : B <= w.heap.size) (h : zaw 119 185 B w p newS fs) :
  Calls Tryz.prog 62 #[.pointer (some ⟨p, 0, none⟩)] w fun e w' => e = .returned (.tuple #[int i64 1, .bool true]) /\ ∃ fs', zaw 119 185 B w' p opS2 fs' /\ zan (zen p fs) w w' /\ ∀ k, fs'.ownBlock = some k -> fs.ownBlock = some k \/ w.heap.size <= k := by
 have HA := zab (append_any B p newS fs opNm opDt w 10 (by omega) ⟨by simp [newS], by simp [newS], by simp [newS], by simp [newS]⟩ (by simp [opDt, ByteArray.size]) hB h)
 rw [op_a, show (!zas newS) = true from by simp [zas, newS]] at HA
 unfold opNm opDt at HA
 clear h
 go_enter Tryz.func62, Tryz.ntmps62
 go_wp2_with fail
 refine (ud HA).mono ?_
 rintro e w1 ⟨rfl, fs1, hd1, hk1, hf1⟩
 have hdk := op_ok
 have HS := zab (sync_any B p opS1 fs1 opNm w1 10 (by omega) hdk hd1)
 rw [op_s, show (!zas opS1) = true from by simp [zas, opS1]] at HS
 unfold opNm at HS
 have HK1 := zab hk1
 have HF1 := zab hf1
 clear hd1 hk1 hf1 hdk
 go_wp2_with fail
 refine (ud HS).mono ?_
 rintro e w2 ⟨rfl, hd2, hk2⟩
 have HR := zab (read_any B p opS2 fs1 opNm w2 10 (by omega) (by simp [opS2]) hd2)
 rw [op_r] at HR
 unfold opNm opDt at HR
 have HD2 := zab hd2
 have HK2 := zab hk2
 clear hd2 hk2
 go_wp2_with fail
 refine (ud HR).mono ?_
 rintro e w3 ⟨rfl, hw3⟩
 rw [hw3]
 clear hw3
 go_wp2_with fail
 refine bodyPost_ret (results_tmp2 rfl _ _ _) rfl ?_
 refine ⟨rfl, fs1, ud HD2, (ud HK1).trans (ud HK2) (fun i hi hk => ?_), ud HF1⟩
 rcases hk with rfl | hk
 ·exact .inl rfl
 ·rcases ud HF1 _ hk with h | h
  ·exact .inr h
  ·omega
set_option maxHeartbeats 2000000 in
theorem popen_bad (c : Cf) (hr : zcd c.s c.le c.la c.wi c.ke c.qu c.n c.F c.W c.K = false) (a : Option Addr) (cap p : Nat) (w : World) (hts : TS w a c.n c.F c.W c.K) :
  Calls Tryz.prog 26 #[.agg #[int i64 c.s, int i64 c.le, int i64 c.la, int i64 c.wi, int i64 c.ke, int i64 c.qu, .slice a c.n cap], .pointer (some ⟨p, 0, none⟩)] w fun e w' => e = .returned (.tuple #[.pointer none, int i64 1]) /\ Below w.heap.size w w' := by
 have hb0 : ∀ o, Below w.heap.size w (w.alloc o) := fun o => (Below.refl _ _).alloc (Nat.le_refl _) _
 have HR := fun o => zab (millRight_any c.s c.le c.la c.wi c.ke c.qu a c.n cap c.F c.W c.K (w.alloc o) (hts.below (hb0 o)))
 rw [hr, show codeOf false = 1 from rfl] at HR
 go_enter Tryz.func26, Tryz.ntmps26
 go_wp2_with fail
 refine (ud (HR _)).mono ?_
 rintro e w1 ⟨rfl, hb1⟩
 go_wp2_with fail
 refine bodyPost_ret (results_tmp2 rfl _ _ _) rfl ?_
 exact ⟨rfl, (hb0 _).trans (hb1.mono (hb0 _).size)⟩
theorem rowns_zero {w : World} {base size n : Nat} {e : TypeId} {v : Value} {xs : List Value} (h : w.ownsRow base e size v n xs) : w.ownsRow 0 e size v n xs := owns_base h (Nat.zero_le _)
def openPost (c : Cf) (B p : Nat) (fs : Value) (w : World) (e : Ending) (w' : World) : Prop :=
 ∃ (i : Ids) (fs' : Value), e = .returned (.tuple #[.pointer (some ⟨i.x, 0, none⟩), int i64 0]) /\ zbb w' i c 1 ⟨0, [], [], 0, [], []⟩ /\ zaw 119 185 B w' p opS2 fs' /\ zan (zen p fs) w w' /\ (∀ k, fs'.ownBlock = some k -> fs.ownBlock = some k \/ w.heap.size <= k) /\ (∀ k, zcz i k -> w.heap.size <= k /\ ¬ zen p fs' k)
set_option maxRecDepth 8000 in
set_option maxHeartbeats 4000000 in
theorem popen_any (c : Cf) (hc : c.ok) (hr : zcd c.s c.le c.la c.wi c.ke c.qu c.n c.F c.W c.K = true) (a : Option Addr) (cap B p : Nat) (fs : Value) (w : World) (hB : B <= w.heap.size) (hd : zaw 119 185 B w p newS fs) (hts : ∀ w', zan (zen p fs) w w' -> TS w' a c.n c.F c.W c.K) :
  Calls Tryz.prog 26 #[.agg #[int i64 c.s, int i64 c.le, int i64 c.la, int i64 c.wi, int i64 c.ke, int i64 c.qu, .slice a c.n cap], .pointer (some ⟨p, 0, none⟩)] w (openPost c B p fs w) := by
 have hb0 : Below w.heap.size w (w.alloc (.cells #[int i64 c.s, int i64 c.le, int i64 c.la, int i64 c.wi, int i64 c.ke, int i64 c.qu, .slice a c.n cap] 27)) := (Below.refl _ _).alloc (Nat.le_refl _) _
 have HL0 := zab (zap w (.cells #[int i64 c.s, int i64 c.le, int i64 c.la, int i64 c.wi, int i64 c.ke, int i64 c.qu, .slice a c.n cap] 27))
 have HR := zab (millRight_any c.s c.le c.la c.wi c.ke c.qu a c.n cap c.F c.W c.K _ (hts _ (zan.of_below hb0)))
 rw [hr, show codeOf true = 0 from rfl] at HR
 have HB0 := zab hb0
 have HD := zab hd
 have HTS := zab hts
 have hpz := hd.lt
 clear hd hts hb0
 go_enter Tryz.func26, Tryz.ntmps26
 go_wp2_with fail
 refine (ud HR).mono ?_
 rintro e w1 ⟨rfl, hb1⟩
 have hbw1 := (ud HB0).trans (hb1.mono (ud HB0).size)
 have HL1 := zab ((hb1.block w.heap.size (by rw [zbd]; omega)).trans (ud HL0))
 have HBG := zab (begin_any B p fs w1 (Nat.le_trans hB hbw1.size) ((ud HD).later hbw1))
 have HW1 := zab hbw1
 clear hb1 hbw1 HR
 go_wp2_with fail
 refine (ud HBG).mono ?_
 rintro e w2 ⟨rfl, fs2, hd2, hk2, hf2⟩
 have hz1 := (ud HW1).size
 have hfp : ¬ zen p fs w.heap.size := by
  rintro (h | h)
  ·omega
  ·have := own_lt (ud HD).row _ h; omega
 have hl2 := hk2.heap (ud HL1) hfp
 have hk02 : zan (zen p fs) w w2 := (zan.of_below (ud HW1)).trans hk2 (fun _ _ h => h)
 have z0 : w2.cell? ⟨w.heap.size, 0, none⟩ = some (int i64 c.s) := by rw [zac hl2]; rfl
 have z1 : w2.cell? ⟨w.heap.size, 1, none⟩ = some (int i64 c.le) := by rw [zac hl2]; rfl
 have z2 : w2.cell? ⟨w.heap.size, 2, none⟩ = some (int i64 c.la) := by rw [zac hl2]; rfl
 have z3 : w2.cell? ⟨w.heap.size, 3, none⟩ = some (int i64 c.wi) := by rw [zac hl2]; rfl
 have z4 : w2.cell? ⟨w.heap.size, 4, none⟩ = some (int i64 c.ke) := by rw [zac hl2]; rfl
 have z5 : w2.cell? ⟨w.heap.size, 5, none⟩ = some (int i64 c.qu) := by rw [zac hl2]; rfl
 have z6 : w2.cell? ⟨w.heap.size, 6, none⟩ = some (.slice a c.n cap) := by rw [zac hl2]; rfl
 have HLN := zab (lnew_any c hc a cap w2 (ud HTS _ hk02))
 have hz2 := hk2.size
 have HK02 := zab hk02
 have HD2 := zab hd2
 have HF2 := zab hf2
 clear hd2 hk2 hf2 hk02 hl2 HL1 HBG
 go_wp2_with fail
 refine (ud HLN).mono ?_
 rintro e w3 ⟨g, cap3, rfl, hown3, hb3⟩
 have HO3 := zab hown3
 have HB3 := zab hb3
 clear hown3 hb3 z0 z1 z2 z3 z4 z5 z6 HLN
 go_wp2_with fail
 have hbA := (ud HB3).alloc (ud HB3).size (.cells #[int i64 c.s, int i64 c.le, int i64 c.la, int i64 c.wi, int i64 c.ke, int i64 c.qu, .slice (some ⟨g, 0, none⟩) c.n cap3] 80)
 have hlA := zap w3 (.cells #[int i64 c.s, int i64 c.le, int i64 c.la, int i64 c.wi, int i64 c.ke, int i64 c.qu, .slice (some ⟨g, 0, none⟩) c.n cap3] 80)
 have hzA := zbd w3 (.cells #[int i64 c.s, int i64 c.le, int i64 c.la, int i64 c.wi, int i64 c.ke, int i64 c.qu, .slice (some ⟨g, 0, none⟩) c.n cap3] 80)
 have HOA := zab ((ud HO3).alloc (.cells #[int i64 c.s, int i64 c.le, int i64 c.la, int i64 c.wi, int i64 c.ke, int i64 c.qu, .slice (some ⟨g, 0, none⟩) c.n cap3] 80))
 generalize (w3.alloc (.cells #[int i64 c.s, int i64 c.le, int i64 c.la, int i64 c.wi, int i64 c.ke, int i64 c.qu, .slice (some ⟨g, 0, none⟩) c.n cap3] 80)) = X at *
 have x0 : X.cell? ⟨w3.heap.size, 0, none⟩ = some (int i64 c.s) := by rw [zac hlA]; rfl
 have x1 : X.cell? ⟨w3.heap.size, 1, none⟩ = some (int i64 c.le) := by rw [zac hlA]; rfl
 have x2 : X.cell? ⟨w3.heap.size, 2, none⟩ = some (int i64 c.la) := by rw [zac hlA]; rfl
 have x3 : X.cell? ⟨w3.heap.size, 3, none⟩ = some (int i64 c.wi) := by rw [zac hlA]; rfl
 have x4 : X.cell? ⟨w3.heap.size, 4, none⟩ = some (int i64 c.ke) := by rw [zac hlA]; rfl
 have x5 : X.cell? ⟨w3.heap.size, 5, none⟩ = some (int i64 c.qu) := by rw [zac hlA]; rfl
 have x6 : X.cell? ⟨w3.heap.size, 6, none⟩ = some (.slice (some ⟨g, 0, none⟩) c.n cap3) := by rw [zac hlA]; rfl
 have hqX : w3.heap.size < X.heap.size := by omega
 have HS := fun W => zab (snew_any c (some ⟨g, 0, none⟩) cap3 W)
 have HJ := fun W => zab (bnew_any c (some ⟨g, 0, none⟩) cap3 1 W)
 have HBA := zab hbA
 have HZA := zab hzA
 clear hbA hlA hzA
 go_region_held3 (fun w' => w'.cell? ⟨w3.heap.size, 0, none⟩ = some (int i64 c.s) /\ w'.cell? ⟨w3.heap.size, 1, none⟩ = some (int i64 c.le) /\ w'.cell? ⟨w3.heap.size, 2, none⟩ = some (int i64 c.la) /\ w'.cell? ⟨w3.heap.size, 3, none⟩ = some (int i64 c.wi) /\ w'.cell? ⟨w3.heap.size, 4, none⟩ = some (int i64 c.ke) /\ w'.cell? ⟨w3.heap.size, 5, none⟩ = some (int i64 c.qu) /\ w'.cell? ⟨w3.heap.size, 6, none⟩ = some (.slice (some ⟨g, 0, none⟩) c.n cap3)) (go_keep) (first
  | (go_at_call 64; (with_reducible refine (ud (HS _)).mono ?_); rintro e V ⟨s1, lb1, gb1, rfl, b1, b2, b3, b4, v1, v2, v3, v4⟩; have hbV : Below X.heap.size X V := ⟨v4.os, v4.tape, v4.output, v4.size, v4.block⟩; have HBS : Hid (X.heap.size <= s1 /\ X.heap.size <= lb1 /\ X.heap.size <= gb1) := ⟨b1, b2, b3⟩; have B4 := zab b4; have V1 := zab v1; have V2 := zab v2; have V3 := zab v3; clear v1 v2 v3 v4 b1 b2 b3 b4; have y0 : V.cell? ⟨w3.heap.size, 0, none⟩ = some (int i64 c.s) := (hbV.cell (p := ⟨w3.heap.size, 0, none⟩) hqX).trans x0; have y1 : V.cell? ⟨w3.heap.size, 1, none⟩ = some (int i64 c.le) := (hbV.cell (p := ⟨w3.heap.size, 1, none⟩) hqX).trans x1; have y2 : V.cell? ⟨w3.heap.size, 2, none⟩ = some (int i64 c.la) := (hbV.cell (p := ⟨w3.heap.size, 2, none⟩) hqX).trans x2; have y3 : V.cell? ⟨w3.heap.size, 3, none⟩ = some (int i64 c.wi) := (hbV.cell (p := ⟨w3.heap.size, 3, none⟩) hqX).trans x3; have y4 : V.cell? ⟨w3.heap.size, 4, none⟩ = some (int i64 c.ke) := (hbV.cell (p := ⟨w3.heap.size, 4, none⟩) hqX).trans x4; have y5 : V.cell? ⟨w3.heap.size, 5, none⟩ = some (int i64 c.qu) := (hbV.cell (p := ⟨w3.heap.size, 5, none⟩) hqX).trans x5; have y6 : V.cell? ⟨w3.heap.size, 6, none⟩ = some (.slice (some ⟨g, 0, none⟩) c.n cap3) := (hbV.cell (p := ⟨w3.heap.size, 6, none⟩) hqX).trans x6; have hqV : w3.heap.size < V.heap.size := Nat.lt_of_lt_of_le hqX hbV.size; have HBV := zab hbV; clear hbV HS)
  | (go_at_call 65; (with_reducible refine (ud (HJ _)).mono ?_); rintro e U ⟨b1, tb1, qb1, rfl, d1, d2, d3, u1, u4⟩; have hbU : Below V.heap.size V U := ⟨u4.os, u4.tape, u4.output, u4.size, u4.block⟩; have HBJ : Hid (V.heap.size <= b1 /\ V.heap.size <= tb1 /\ V.heap.size <= qb1) := ⟨d1, d2, d3⟩; have U1 := zab u1; clear u1 u4 d1 d2 d3; have z0 : U.cell? ⟨w3.heap.size, 0, none⟩ = some (int i64 c.s) := (hbU.cell (p := ⟨w3.heap.size, 0, none⟩) hqV).trans y0; have z1 : U.cell? ⟨w3.heap.size, 1, none⟩ = some (int i64 c.le) := (hbU.cell (p := ⟨w3.heap.size, 1, none⟩) hqV).trans y1; have z2 : U.cell? ⟨w3.heap.size, 2, none⟩ = some (int i64 c.la) := (hbU.cell (p := ⟨w3.heap.size, 2, none⟩) hqV).trans y2; have z3 : U.cell? ⟨w3.heap.size, 3, none⟩ = some (int i64 c.wi) := (hbU.cell (p := ⟨w3.heap.size, 3, none⟩) hqV).trans y3; have z4 : U.cell? ⟨w3.heap.size, 4, none⟩ = some (int i64 c.ke) := (hbU.cell (p := ⟨w3.heap.size, 4, none⟩) hqV).trans y4; have z5 : U.cell? ⟨w3.heap.size, 5, none⟩ = some (int i64 c.qu) := (hbU.cell (p := ⟨w3.heap.size, 5, none⟩) hqV).trans y5; have z6 : U.cell? ⟨w3.heap.size, 6, none⟩ = some (.slice (some ⟨g, 0, none⟩) c.n cap3) := (hbU.cell (p := ⟨w3.heap.size, 6, none⟩) hqV).trans y6; have hqU : w3.heap.size < U.heap.size := Nat.lt_of_lt_of_le hqV hbU.size; have HBU := zab hbU; clear hbU HJ))
 go_wp2_with fail
 refine bodyPost_ret (results_tmp2 rfl _ _ _) rfl ?_
 have hbV := ud HBV
 have hbU := ud HBU
 have hb2V := (ud HBA).trans (hbV.mono (ud HBA).size)
 have hb2U := hb2V.trans (hbU.mono hb2V.size)
 have hb2Z := hb2U.alloc hb2U.size (.cells #[int i64 c.s, int i64 c.le, int i64 c.la, int i64 c.wi, int i64 c.ke, int i64 c.qu, .slice (some ⟨g, 0, none⟩) c.n cap3, int i64 1, int i64 0, .pointer (some ⟨s1, 0, none⟩), .pointer (some ⟨b1, 0, none⟩)] 84)
 have hUZ : Below U.heap.size U (U.alloc (.cells #[int i64 c.s, int i64 c.le, int i64 c.la, int i64 c.wi, int i64 c.ke, int i64 c.qu, .slice (some ⟨g, 0, none⟩) c.n cap3, int i64 1, int i64 0, .pointer (some ⟨s1, 0, none⟩), .pointer (some ⟨b1, 0, none⟩)] 84)) := (Below.refl _ _).alloc (Nat.le_refl _) _
 have hXV := hbV.size
 have hVU := hbU.size
 have h2X := (ud HBA).size
 obtain ⟨s0, s9, s8⟩ := ud HBS
 obtain ⟨j0, j9, j8⟩ := ud HBJ
 have hs1 := zaa (ud V1)
 have hl1 : lb1 < V.heap.size := by obtain ⟨es, cl, hb, _⟩ := ud V2; exact zaa hb
 have hg1 := (ud V3).lt
 have hbl := (ud U1).foot_lt
 obtain ⟨g2, cap2, hgv, hgb, hgl⟩ := (ud HOA).form (by have := hc.n1; omega)
 have hgg : g2 = g := by injection hgv with h1 _ _; injection h1 with h1; injection h1 with h1; exact h1.symm
 subst hgg
 refine ⟨⟨U.heap.size, s1, lb1, gb1, b1, tb1, qb1, .slice (some ⟨g2, 0, none⟩) c.n cap3⟩, fs2, rfl, ⟨zap _ _, ⟨(hUZ.block _ (by show s1 < _; omega)).trans ((hbU.block _ hs1).trans (ud V1)), ?_, ((ud V2).later hbU).later hUZ, ((ud V3).later hbU).later hUZ, ud B4⟩, (ud U1).later hUZ, by show lb1 ≠ tb1; omega, by show lb1 ≠ qb1; omega, by show gb1 ≠ tb1; omega, by show gb1 ≠ qb1; omega⟩, (ud HD2).later hb2Z, (ud HK02).trans (zan.of_below (f := zen p fs) hb2Z) (fun _ _ h => h), fun k hk => ?_, fun k hk => ?_⟩
 ·exact zcc (zcc (zcc (rowns_zero (ud HOA)) hbV) hbU) hUZ
 ·rcases ud HF2 k hk with h | h
  ·exact .inl h
  ·right; omega
 ·have hk2 : w2.heap.size <= k := by
   rcases hk with e | hk | hk
   ·have : k = U.heap.size := e
    omega
   ·rcases hk with e | e | e | e
    ·have : k = s1 := e
     omega
    ·have e' : (Value.slice (some ⟨g2, 0, none⟩) c.n cap3).ownBlock = some k := e
     simp [Value.ownBlock] at e'; subst e'; exact hgb
    ·have : k = lb1 := e
     omega
    ·have : k = gb1 := e
     omega
   ·rcases hk with e | e | e
    ·have : k = b1 := e
     omega
    ·have : k = tb1 := e
     omega
    ·have : k = qb1 := e
     omega
  refine ⟨by omega, fun hf => ?_⟩
  rcases hf with rfl | hf
  ·omega
  ·have := own_lt (ud HD2).row k hf; omega
end Go.Proofs.YtpbimdkclnekeaaGreat
