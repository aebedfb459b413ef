import Derived.Test.YtgadceofpbfleaaGreatQOpn0
import Derived.Test.YtgadceofpbfleaaGreatQConf2
import Derived.Deep.RegionHeld3

/- Walks: journal.Begin on a new disk, mill.Open. -/
namespace Go.Proofs.YtgadceofpbfleaaGreat
open Go.RowKit Go.Maps Go.Shelf
set_option linter.unusedVariables false

def opNm : ByteArray := ⟨#[111, 112, 101, 110, 105, 110, 103, 115]⟩
def opDt : ByteArray := ⟨#[43]⟩
def opS1 : DS := ⟨[⟨opNm, opDt, 0⟩], -1, false⟩
def opS2 : DS := ⟨[⟨opNm, opDt, 1⟩], -1, false⟩
theorem op_eq : eqS opNm opNm = true := by simp [eqS]
theorem op_place : place opS1.files opNm = some 0 := by
  have := (placeI_some (l := opS1.files) (name := opNm) (i := 0) (f := ⟨opNm, opDt, 0⟩) rfl op_eq (fun j g hj _ => by omega)).1
  exact this
theorem op_place2 : place opS2.files opNm = some 0 := by
  have := (placeI_some (l := opS2.files) (name := opNm) (i := 0) (f := ⟨opNm, opDt, 1⟩) rfl op_eq (fun j g hj _ => by omega)).1
  exact this
theorem op_step : stepped newS = newS := by simp [stepped, stoppedB, newS]
theorem op_step1 : stepped opS1 = opS1 := by simp [stepped, stoppedB, opS1]
theorem op_a : afterAppend newS opNm opDt = opS1 := by
  rw [afterAppend_none (by simp [stoppedB, newS]) (by simp [place, placeFrom, newS]), op_step]; rfl
theorem op_s : afterSync opS1 opNm = opS2 := by
  rw [afterSync_some (i := 0) (f := ⟨opNm, opDt, 0⟩) (by simp [stoppedB, opS1]) op_place rfl, op_step1]; rfl
theorem op_ok : DOk opS1 10 := by
  refine ⟨by show (-1 : Int) ≤ -1; omega, by show (-1 : Int) ≤ 9223372036854775807; omega, by show 1 ≤ 10; omega, fun f hf => ?_⟩
  have : f = ⟨opNm, opDt, 0⟩ := by simpa [opS1] using hf
  subst this
  exact ⟨Nat.zero_le _, by show 1 ≤ 10; omega⟩
theorem op_r : readD opS2 opNm = opDt := by unfold readD; rw [op_place2]; rfl

set_option maxHeartbeats 2000000 in
theorem begin_any (B p : Nat) (fs : Value) (w : World) (hB : B ≤ w.heap.size) (h : DiskAt 67 75 B w p newS fs) :
    Calls Tryz.prog 43 #[.pointer (some ⟨p, 0, none⟩)] w fun e w' => e = .returned (.tuple #[.int .i64 1, .bool true]) ∧ ∃ fs', DiskAt 67 75 B w' p opS2 fs' ∧ Kept (foot p fs) w w' ∧ ∀ k, fs'.ownBlock = some k → fs.ownBlock = some k ∨ w.heap.size ≤ k := by
  have HA := hide (append_any B p newS fs opNm opDt w 10 (by omega) ⟨by simp [newS], by simp [newS], by simp [newS], by simp [newS]⟩ (by simp [opDt, ByteArray.size]) hB h)
  rw [op_a, show (!stoppedB newS) = true from by simp [stoppedB, newS]] at HA
  unfold opNm opDt at HA
  clear h
  go_enter Tryz.func43, Tryz.ntmps43
  go_wp2_with fail
  refine (unhide HA).mono ?_
  rintro e w1 ⟨rfl, fs1, hd1, hk1, hf1⟩
  have hdk := op_ok
  have HS := hide (sync_any B p opS1 fs1 opNm w1 10 (by omega) hdk hd1)
  rw [op_s, show (!stoppedB opS1) = true from by simp [stoppedB, opS1]] at HS
  unfold opNm at HS
  have HK1 := hide hk1
  have HF1 := hide hf1
  clear hd1 hk1 hf1 hdk
  go_wp2_with fail
  refine (unhide HS).mono ?_
  rintro e w2 ⟨rfl, hd2, hk2⟩
  have HR := hide (read_any B p opS2 fs1 opNm w2 10 (by omega) (by simp [opS2]) hd2)
  rw [op_r] at HR
  unfold opNm opDt at HR
  have HD2 := hide hd2
  have HK2 := hide hk2
  clear hd2 hk2
  go_wp2_with fail
  refine (unhide HR).mono ?_
  rintro e w3 ⟨rfl, hw3⟩
  rw [hw3]
  clear hw3
  go_wp2_with fail
  refine bodyPost_ret (results_tmp2 rfl _ _ _) rfl ?_
  refine ⟨rfl, fs1, unhide HD2, (unhide HK1).trans (unhide HK2) (fun i hi hk => ?_), unhide HF1⟩
  rcases hk with rfl | hk
  · exact .inl rfl
  · rcases unhide HF1 _ hk with h | h
    · exact .inr h
    · omega

set_option maxHeartbeats 2000000 in
theorem popen_bad (c : Cf) (hr : rightB c.s c.le c.la c.wi c.ke c.qu c.n c.F c.W c.K = false) (a : Option Addr) (cap p : Nat) (w : World) (hts : TS w a c.n c.F c.W c.K) :
    Calls Tryz.prog 23 #[.agg #[.int .i64 c.s, .int .i64 c.le, .int .i64 c.la, .int .i64 c.wi, .int .i64 c.ke, .int .i64 c.qu, .slice a c.n cap], .pointer (some ⟨p, 0, none⟩)] w fun e w' => e = .returned (.tuple #[.pointer none, .int .i64 1]) ∧ Below w.heap.size w w' := by
  have hb0 : ∀ o, Below w.heap.size w (w.alloc o) := fun o => (Below.refl _ _).alloc (Nat.le_refl _) _
  have HR := fun o => hide (millRight_any c.s c.le c.la c.wi c.ke c.qu a c.n cap c.F c.W c.K (w.alloc o) (hts.below (hb0 o)))
  rw [hr, show codeOf false = 1 from rfl] at HR
  go_enter Tryz.func23, Tryz.ntmps23
  go_wp2_with fail
  refine (unhide (HR _)).mono ?_
  rintro e w1 ⟨rfl, hb1⟩
  go_wp2_with fail
  refine bodyPost_ret (results_tmp2 rfl _ _ _) rfl ?_
  exact ⟨rfl, (hb0 _).trans (hb1.mono (hb0 _).size)⟩

theorem rowns_zero {w : World} {base size n : Nat} {e : TypeId} {v : Value} {xs : List Value} (h : w.ownsRow base e size v n xs) : w.ownsRow 0 e size v n xs := owns_base h (Nat.zero_le _)

/-- what Open leaves. -/
def openPost (c : Cf) (B p : Nat) (fs : Value) (w : World) (e : Ending) (w' : World) : Prop :=
  ∃ x s lb gb g cap' fs', e = .returned (.tuple #[.pointer (some ⟨x, 0, none⟩), .int .i64 0]) ∧ MillAt w' x c (.slice (some ⟨g, 0, none⟩) c.n cap') 1 0 s lb gb [] ∧ DiskAt 67 75 B w' p opS2 fs' ∧ Kept (foot p fs) w w' ∧ (∀ k, fs'.ownBlock = some k → fs.ownBlock = some k ∨ w.heap.size ≤ k) ∧ (∀ k, mfoot x s (.slice (some ⟨g, 0, none⟩) c.n cap') lb gb k → w.heap.size ≤ k ∧ ¬ foot p fs' k)

set_option maxRecDepth 8000 in
set_option maxHeartbeats 4000000 in
theorem popen_any (c : Cf) (hc : c.ok) (hr : rightB c.s c.le c.la c.wi c.ke c.qu c.n c.F c.W c.K = true) (a : Option Addr) (cap B p : Nat) (fs : Value) (w : World) (hB : B ≤ w.heap.size) (hd : DiskAt 67 75 B w p newS fs) (hts : ∀ w', Kept (foot p fs) w w' → TS w' a c.n c.F c.W c.K) :
    Calls Tryz.prog 23 #[.agg #[.int .i64 c.s, .int .i64 c.le, .int .i64 c.la, .int .i64 c.wi, .int .i64 c.ke, .int .i64 c.qu, .slice a c.n cap], .pointer (some ⟨p, 0, none⟩)] w (openPost c B p fs w) := by
  have hb0 : Below w.heap.size w (w.alloc (.cells #[.int .i64 c.s, .int .i64 c.le, .int .i64 c.la, .int .i64 c.wi, .int .i64 c.ke, .int .i64 c.qu, .slice a c.n cap] 35)) := (Below.refl _ _).alloc (Nat.le_refl _) _
  have HL0 := hide (rlast w (.cells #[.int .i64 c.s, .int .i64 c.le, .int .i64 c.la, .int .i64 c.wi, .int .i64 c.ke, .int .i64 c.qu, .slice a c.n cap] 35))
  have HR := hide (millRight_any c.s c.le c.la c.wi c.ke c.qu a c.n cap c.F c.W c.K _ (hts _ (Kept.of_below hb0)))
  rw [hr, show codeOf true = 0 from rfl] at HR
  have HB0 := hide hb0
  have HD := hide hd
  have HTS := hide hts
  have hpz := hd.lt
  clear hd hts hb0
  go_enter Tryz.func23, Tryz.ntmps23
  go_wp2_with fail
  refine (unhide HR).mono ?_
  rintro e w1 ⟨rfl, hb1⟩
  have hbw1 := (unhide HB0).trans (hb1.mono (unhide HB0).size)
  have HL1 := hide ((hb1.block w.heap.size (by rw [rsize]; omega)).trans (unhide HL0))
  have HBG := hide (begin_any B p fs w1 (Nat.le_trans hB hbw1.size) ((unhide HD).later hbw1))
  have HW1 := hide hbw1
  clear hb1 hbw1 HR
  go_wp2_with fail
  refine (unhide HBG).mono ?_
  rintro e w2 ⟨rfl, fs2, hd2, hk2, hf2⟩
  have hz1 := (unhide HW1).size
  have hfp : ¬ foot p fs w.heap.size := by
    rintro (h | h)
    · omega
    · have := own_lt (unhide HD).row _ h; omega
  have hl2 := hk2.heap (unhide HL1) hfp
  have hk02 : Kept (foot p fs) w w2 := (Kept.of_below (unhide HW1)).trans hk2 (fun _ _ h => h)
  have z0 : w2.cell? ⟨w.heap.size, 0, none⟩ = some (.int .i64 c.s) := by rw [rcell hl2]; rfl
  have z1 : w2.cell? ⟨w.heap.size, 1, none⟩ = some (.int .i64 c.le) := by rw [rcell hl2]; rfl
  have z2 : w2.cell? ⟨w.heap.size, 2, none⟩ = some (.int .i64 c.la) := by rw [rcell hl2]; rfl
  have z3 : w2.cell? ⟨w.heap.size, 3, none⟩ = some (.int .i64 c.wi) := by rw [rcell hl2]; rfl
  have z4 : w2.cell? ⟨w.heap.size, 4, none⟩ = some (.int .i64 c.ke) := by rw [rcell hl2]; rfl
  have z5 : w2.cell? ⟨w.heap.size, 5, none⟩ = some (.int .i64 c.qu) := by rw [rcell hl2]; rfl
  have z6 : w2.cell? ⟨w.heap.size, 6, none⟩ = some (.slice a c.n cap) := by rw [rcell hl2]; rfl
  have HLN := hide (lnew_any c hc a cap w2 (unhide HTS _ hk02))
  have hz2 := hk2.size
  have HK02 := hide hk02
  have HD2 := hide hd2
  have HF2 := hide hf2
  clear hd2 hk2 hf2 hk02 hl2 HL1 HBG
  go_wp2_with fail
  refine (unhide HLN).mono ?_
  rintro e w3 ⟨g, cap3, rfl, hown3, hb3⟩
  have HO3 := hide hown3
  have HB3 := hide hb3
  clear hown3 hb3 z0 z1 z2 z3 z4 z5 z6 HLN
  go_wp2_with fail
  have hbA := (unhide HB3).alloc (unhide HB3).size (.cells #[.int .i64 c.s, .int .i64 c.le, .int .i64 c.la, .int .i64 c.wi, .int .i64 c.ke, .int .i64 c.qu, .slice (some ⟨g, 0, none⟩) c.n cap3] 103)
  have hlA := rlast w3 (.cells #[.int .i64 c.s, .int .i64 c.le, .int .i64 c.la, .int .i64 c.wi, .int .i64 c.ke, .int .i64 c.qu, .slice (some ⟨g, 0, none⟩) c.n cap3] 103)
  have hzA := rsize w3 (.cells #[.int .i64 c.s, .int .i64 c.le, .int .i64 c.la, .int .i64 c.wi, .int .i64 c.ke, .int .i64 c.qu, .slice (some ⟨g, 0, none⟩) c.n cap3] 103)
  have HOA := hide ((unhide HO3).alloc (.cells #[.int .i64 c.s, .int .i64 c.le, .int .i64 c.la, .int .i64 c.wi, .int .i64 c.ke, .int .i64 c.qu, .slice (some ⟨g, 0, none⟩) c.n cap3] 103))
  generalize (w3.alloc (.cells #[.int .i64 c.s, .int .i64 c.le, .int .i64 c.la, .int .i64 c.wi, .int .i64 c.ke, .int .i64 c.qu, .slice (some ⟨g, 0, none⟩) c.n cap3] 103)) = X at *
  have x0 : X.cell? ⟨w3.heap.size, 0, none⟩ = some (.int .i64 c.s) := by rw [rcell hlA]; rfl
  have x1 : X.cell? ⟨w3.heap.size, 1, none⟩ = some (.int .i64 c.le) := by rw [rcell hlA]; rfl
  have x2 : X.cell? ⟨w3.heap.size, 2, none⟩ = some (.int .i64 c.la) := by rw [rcell hlA]; rfl
  have x3 : X.cell? ⟨w3.heap.size, 3, none⟩ = some (.int .i64 c.wi) := by rw [rcell hlA]; rfl
  have x4 : X.cell? ⟨w3.heap.size, 4, none⟩ = some (.int .i64 c.ke) := by rw [rcell hlA]; rfl
  have x5 : X.cell? ⟨w3.heap.size, 5, none⟩ = some (.int .i64 c.qu) := by rw [rcell hlA]; rfl
  have x6 : X.cell? ⟨w3.heap.size, 6, none⟩ = some (.slice (some ⟨g, 0, none⟩) c.n cap3) := by rw [rcell hlA]; rfl
  have hqX : w3.heap.size < X.heap.size := by omega
  have HS0 := hide (snew_any c (some ⟨g, 0, none⟩) cap3 X)
  have HS1 := hide (snew_any c (some ⟨g, 0, none⟩) cap3 X.drew)
  have HBA := hide hbA
  have HZA := hide hzA
  clear hbA hlA hzA
  go_region_held3 (fun w' => w'.cell? ⟨w3.heap.size, 0, none⟩ = some (.int .i64 c.s) ∧ w'.cell? ⟨w3.heap.size, 1, none⟩ = some (.int .i64 c.le) ∧ w'.cell? ⟨w3.heap.size, 2, none⟩ = some (.int .i64 c.la) ∧ w'.cell? ⟨w3.heap.size, 3, none⟩ = some (.int .i64 c.wi) ∧ w'.cell? ⟨w3.heap.size, 4, none⟩ = some (.int .i64 c.ke) ∧ w'.cell? ⟨w3.heap.size, 5, none⟩ = some (.int .i64 c.qu) ∧ w'.cell? ⟨w3.heap.size, 6, none⟩ = some (.slice (some ⟨g, 0, none⟩) c.n cap3)) (go_keep) (first
    | (go_at_call 45; (first | refine (unhide HS1).mono ?_ | refine (unhide HS0).mono ?_); rintro e V ⟨rfl, v1, v2, v3, v4⟩; have hbV : Below X.heap.size X V := ⟨v4.os, v4.tape, v4.output, v4.size, v4.block⟩; have V1 := hide v1; have V2 := hide v2; have V3 := hide v3; clear v1 v2 v3 v4; have y0 := (hbV.cell (p := ⟨w3.heap.size, 0, none⟩) hqX).trans x0; have y1 := (hbV.cell (p := ⟨w3.heap.size, 1, none⟩) hqX).trans x1; have y2 := (hbV.cell (p := ⟨w3.heap.size, 2, none⟩) hqX).trans x2; have y3 := (hbV.cell (p := ⟨w3.heap.size, 3, none⟩) hqX).trans x3; have y4 := (hbV.cell (p := ⟨w3.heap.size, 4, none⟩) hqX).trans x4; have y5 := (hbV.cell (p := ⟨w3.heap.size, 5, none⟩) hqX).trans x5; have y6 := (hbV.cell (p := ⟨w3.heap.size, 6, none⟩) hqX).trans x6; have hqV : w3.heap.size < V.heap.size := Nat.lt_of_lt_of_le hqX hbV.size))
  go_wp2_with fail
  refine bodyPost_ret (results_tmp2 rfl _ _ _) rfl ?_
  have hb2V := (unhide HBA).trans (hbV.mono (unhide HBA).size)
  have hb2Z := hb2V.alloc hb2V.size (.cells #[.int .i64 c.s, .int .i64 c.le, .int .i64 c.la, .int .i64 c.wi, .int .i64 c.ke, .int .i64 c.qu, .slice (some ⟨g, 0, none⟩) c.n cap3, .int .i64 1, .int .i64 0, .pointer (some ⟨X.heap.size + 3, 0, none⟩)] 108)
  have hVZ : Below V.heap.size V (V.alloc (.cells #[.int .i64 c.s, .int .i64 c.le, .int .i64 c.la, .int .i64 c.wi, .int .i64 c.ke, .int .i64 c.qu, .slice (some ⟨g, 0, none⟩) c.n cap3, .int .i64 1, .int .i64 0, .pointer (some ⟨X.heap.size + 3, 0, none⟩)] 108)) := (Below.refl _ _).alloc (Nat.le_refl _) _
  have hXV := hbV.size
  have h2X := (unhide HBA).size
  obtain ⟨g2, cap2, hgv, hgb, hgl⟩ := (unhide HOA).form (by have := hc.n1; omega)
  have hgg : g2 = g := by injection hgv with h1 _ _; injection h1 with h1; injection h1 with h1; exact h1.symm
  subst hgg
  refine ⟨V.heap.size, X.heap.size + 3, X.heap.size + 1, X.heap.size + 2, g2, cap3, fs2, rfl, ⟨rlast _ _, ⟨(hVZ.block _ (lt_of_heap (unhide V1))).trans (unhide V1), ?_, (unhide V2).later hVZ, (hVZ.block _ (lt_of_heap (unhide V3))).trans (unhide V3), by omega⟩⟩, (unhide HD2).later hb2Z, (unhide HK02).trans (Kept.of_below (f := foot p fs) hb2Z) (fun _ _ h => h), fun k hk => ?_, fun k hk => ?_⟩
  · exact row_later (row_later (rowns_zero (unhide HOA)) hbV) hVZ
  · rcases unhide HF2 k hk with h | h
    · exact .inl h
    · right; omega
  · have hk2 : w2.heap.size ≤ k := by
      rcases hk with rfl | rfl | hk | rfl | rfl
      · omega
      · omega
      · simp [Value.ownBlock] at hk; subst hk; exact hgb
      · omega
      · omega
    refine ⟨by omega, fun hf => ?_⟩
    rcases hf with rfl | hf
    · omega
    · have := own_lt (unhide HD2).row k hf; omega
end Go.Proofs.YtgadceofpbfleaaGreat
