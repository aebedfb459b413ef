import Derived.Test.YtpbimdkclnekeaaGreatTRefC
import Derived.Maps.Keyed
import Derived.Maps.RangeRun
import Derived.DeepKeys4
import Derived.RangeFuncOwn

namespace Go.Proofs.YtpbimdkclnekeaaGreat
open Value (int)
open IntKind (i64)
open Go.RowKit
set_option linter.unusedVariables false
def newTk (m : RM) (kind : Int) (s : Sg) : Tk := ⟨kind, s, m.now, 0, 0, 0, 0, -1, 0⟩
def zdd (kind : Int) (s : Sg) (t x : Tk) : Tk := if x.kind = kind /\ x.s = s then x else t
def zea (m : RM) (kind : Int) (s : Sg) : Tk := m.tasks.foldl (zdd kind s) (newTk m kind s)
def readyK (m : RM) (kind : Int) (s : Sg) (l : List Sg) : Bool := if kind = 1 then zdz m s l else zdk m s l
def zfm (m : RM) (l : List Sg) (kind : Int) (out : List Tk) (s : Sg) : List Tk := if readyK m kind s l then insBy zdh (zea m kind s) out else out
def zcy (m : RM) (l : List Sg) (i : Nat) : List Tk := (l.take i).foldl (fun out s => zfm m l 2 (zfm m l 1 out s) s) []
def midOut (m : RM) (l : List Sg) (A : List Tk) (s : Sg) : Nat -> List Tk
 | 0 => A
 | q + 1 => zfm m l ((q : Int) + 1) (midOut m l A s q) s
def RM.settled (m : RM) : RM := { m with tasks := zcy m (zax m.c m.nums) (zax m.c m.nums).length }
theorem settle_succ (m : RM) (l : List Sg) (i : Nat) (s : Sg) (h : l[i]? = some s) : zcy m l (i + 1) = midOut m l (zcy m l i) s 2 := by
 obtain ⟨hl, hx⟩ := List.getElem?_eq_some_iff.1 h
 unfold zcy
 rw [List.take_succ_eq_append_getElem hl, hx, List.foldl_append]; rfl
theorem insBy_len {α : Type} (lt : α -> α -> Bool) (x : α) : ∀ l : List α, (insBy lt x l).length = l.length + 1
 | [] => rfl
 | y :: r => by rw [insBy]; split <;> simp [insBy_len lt x r]
theorem stepK_len (m : RM) (l : List Sg) (kind : Int) (out : List Tk) (s : Sg) : (zfm m l kind out s).length <= out.length + 1 := by
 unfold zfm; split
 ·rw [insBy_len]; omega
 ·omega
theorem mid_len (m : RM) (l : List Sg) (A : List Tk) (s : Sg) : ∀ q, (midOut m l A s q).length <= A.length + q
 | 0 => Nat.le_refl _
 | q + 1 => by have := stepK_len m l ((q : Int) + 1) (midOut m l A s q) s; have h2 := mid_len m l A s q; rw [midOut]; omega
theorem settle_len (m : RM) (l : List Sg) : ∀ i, i <= l.length -> (zcy m l i).length <= 2 * i
 | 0, _ => by simp [zcy]
 | i + 1, h => by
  obtain ⟨s, hs⟩ := zch (show i < l.length by omega)
  have := settle_len m l i (by omega)
  have h2 := mid_len m l (zcy m l i) s 2
  rw [settle_succ m l i s hs]; omega
theorem pick_take (m : RM) (kind : Int) (s : Sg) (k : Nat) (x : Tk) (h : m.tasks[k]? = some x) : (m.tasks.take (k + 1)).foldl (zdd kind s) (newTk m kind s) = zdd kind s ((m.tasks.take k).foldl (zdd kind s) (newTk m kind s)) x := by
 rw [tk_take h, List.foldl_append]; rfl
theorem pick_yes {kind : Int} {s : Sg} {t x : Tk} (h : x.kind = kind) (h1 : x.s = s) : zdd kind s t x = x := by simp [zdd, h, h1]
theorem pick_no1 {kind : Int} {s : Sg} {t x : Tk} (h : ¬ x.kind = kind) : zdd kind s t x = t := by simp [zdd, h]
theorem pick_no2 {kind : Int} {s : Sg} {t x : Tk} (h : ¬ x.s = s) : zdd kind s t x = t := by simp [zdd, h]
theorem segs_ok {c : Cf} {nums : List Nm} (hc : c.ok) (hno : ∀ x ∈ nums, x.ok) : ∀ s ∈ zax c nums, sgOk c s := fun s hs => by
 obtain ⟨h1, h2, x, hx, he⟩ := mem_segsOf.1 hs
 obtain ⟨o1, o2, o3, o4, o5, o6⟩ := hno x hx
 obtain ⟨w1, w2⟩ := hc.width h1 h2
 have e : s.win = x.tm / c.width s.t := by rw [he]; rfl
 refine ⟨h1, h2, ?_, ?_⟩
 ·rw [e]; exact Int.ediv_nonneg o3 (by omega)
 ·rw [e]; have := Int.ediv_le_self (a := x.tm) (c.width s.t) o3; omega
theorem zau {w : World} {p : Nat} {cs : Array Value} {T e : TypeId} {fr : Nat × Nat} {B size n : Nat} {v : Value} {xs : List Value} (h : w.heap[p]? = some (.cells cs T fr)) (hr : w.ownsRow B e size v n xs) (hT : T ≠ e) : ∀ k, v.ownBlock = some k -> ¬ k = p := fun k hk hkp => by
 subst hkp
 obtain ⟨cur, hc⟩ := zbp hr hk
 rw [h] at hc
 injection hc with hc; injection hc with _ hc; exact hT hc
theorem zbk.setTasks {B : Nat} {w : World} {p : Nat} {m : RM} {tv nv pv gv kv : Value} {ts : List Tk} {z : Value} (h : zbk B w p m tv nv pv gv kv) (hz : w.ownsRow B 239 11 z ts.length (ts.flatMap tkV)) : zbk B (w.setCell ⟨p, 11, none⟩ z) p { m with tasks := ts } tv nv pv gv z := by
 have hk : zan (fun k => k = p) w (w.setCell ⟨p, 11, none⟩ z) := zag (zan.refl _ _) rfl
 exact ⟨zbz (i := 11) h.head z, h.base, zae h.trow hk (zau h.head h.trow (by decide)), zae h.nrow hk (zau h.head h.nrow (by decide)), zae h.prow hk (zau h.head h.prow (by decide)), zae h.grow hk (zau h.head h.grow (by decide)), zae hz hk (zau h.head hz (by decide))⟩
theorem set11 {w : World} {g : Nat} {a : Tk} (h : w.heap[g]? = some (tkObj a)) (x : Tk) : (((((((((((w.setCell ⟨g, 0, none⟩ (int i64 x.kind)).setCell ⟨g, 1, none⟩ (int i64 x.s.t)).setCell ⟨g, 2, none⟩ (int i64 x.s.ser)).setCell ⟨g, 3, none⟩ (int i64 x.s.win)).setCell ⟨g, 4, none⟩ (int i64 x.since)).setCell ⟨g, 5, none⟩ (int i64 x.tries)).setCell ⟨g, 6, none⟩ (int i64 x.rest)).setCell ⟨g, 7, none⟩ (int i64 x.ep)).setCell ⟨g, 8, none⟩ (int i64 x.num)).setCell ⟨g, 9, none⟩ (int i64 x.slot)).setCell ⟨g, 10, none⟩ (int i64 x.till)).heap[g]? = some (tkObj x) := by
 have h0 : (w.setCell ⟨g, 0, none⟩ (int i64 x.kind)).heap[g]? = some (.cells #[int i64 x.kind, int i64 a.s.t, int i64 a.s.ser, int i64 a.s.win, int i64 a.since, int i64 a.tries, int i64 a.rest, int i64 a.ep, int i64 a.num, int i64 a.slot, int i64 a.till] 239 (0, 0)) := zbz (i := 0) h (int i64 x.kind)
 have h1 : ((w.setCell ⟨g, 0, none⟩ (int i64 x.kind)).setCell ⟨g, 1, none⟩ (int i64 x.s.t)).heap[g]? = some (.cells #[int i64 x.kind, int i64 x.s.t, int i64 a.s.ser, int i64 a.s.win, int i64 a.since, int i64 a.tries, int i64 a.rest, int i64 a.ep, int i64 a.num, int i64 a.slot, int i64 a.till] 239 (0, 0)) := zbz (i := 1) h0 (int i64 x.s.t)
 have h2 : (((w.setCell ⟨g, 0, none⟩ (int i64 x.kind)).setCell ⟨g, 1, none⟩ (int i64 x.s.t)).setCell ⟨g, 2, none⟩ (int i64 x.s.ser)).heap[g]? = some (.cells #[int i64 x.kind, int i64 x.s.t, int i64 x.s.ser, int i64 a.s.win, int i64 a.since, int i64 a.tries, int i64 a.rest, int i64 a.ep, int i64 a.num, int i64 a.slot, int i64 a.till] 239 (0, 0)) := zbz (i := 2) h1 (int i64 x.s.ser)
 have h3 : ((((w.setCell ⟨g, 0, none⟩ (int i64 x.kind)).setCell ⟨g, 1, none⟩ (int i64 x.s.t)).setCell ⟨g, 2, none⟩ (int i64 x.s.ser)).setCell ⟨g, 3, none⟩ (int i64 x.s.win)).heap[g]? = some (.cells #[int i64 x.kind, int i64 x.s.t, int i64 x.s.ser, int i64 x.s.win, int i64 a.since, int i64 a.tries, int i64 a.rest, int i64 a.ep, int i64 a.num, int i64 a.slot, int i64 a.till] 239 (0, 0)) := zbz (i := 3) h2 (int i64 x.s.win)
 have h4 : (((((w.setCell ⟨g, 0, none⟩ (int i64 x.kind)).setCell ⟨g, 1, none⟩ (int i64 x.s.t)).setCell ⟨g, 2, none⟩ (int i64 x.s.ser)).setCell ⟨g, 3, none⟩ (int i64 x.s.win)).setCell ⟨g, 4, none⟩ (int i64 x.since)).heap[g]? = some (.cells #[int i64 x.kind, int i64 x.s.t, int i64 x.s.ser, int i64 x.s.win, int i64 x.since, int i64 a.tries, int i64 a.rest, int i64 a.ep, int i64 a.num, int i64 a.slot, int i64 a.till] 239 (0, 0)) := zbz (i := 4) h3 (int i64 x.since)
 have h5 : ((((((w.setCell ⟨g, 0, none⟩ (int i64 x.kind)).setCell ⟨g, 1, none⟩ (int i64 x.s.t)).setCell ⟨g, 2, none⟩ (int i64 x.s.ser)).setCell ⟨g, 3, none⟩ (int i64 x.s.win)).setCell ⟨g, 4, none⟩ (int i64 x.since)).setCell ⟨g, 5, none⟩ (int i64 x.tries)).heap[g]? = some (.cells #[int i64 x.kind, int i64 x.s.t, int i64 x.s.ser, int i64 x.s.win, int i64 x.since, int i64 x.tries, int i64 a.rest, int i64 a.ep, int i64 a.num, int i64 a.slot, int i64 a.till] 239 (0, 0)) := zbz (i := 5) h4 (int i64 x.tries)
 have h6 : (((((((w.setCell ⟨g, 0, none⟩ (int i64 x.kind)).setCell ⟨g, 1, none⟩ (int i64 x.s.t)).setCell ⟨g, 2, none⟩ (int i64 x.s.ser)).setCell ⟨g, 3, none⟩ (int i64 x.s.win)).setCell ⟨g, 4, none⟩ (int i64 x.since)).setCell ⟨g, 5, none⟩ (int i64 x.tries)).setCell ⟨g, 6, none⟩ (int i64 x.rest)).heap[g]? = some (.cells #[int i64 x.kind, int i64 x.s.t, int i64 x.s.ser, int i64 x.s.win, int i64 x.since, int i64 x.tries, int i64 x.rest, int i64 a.ep, int i64 a.num, int i64 a.slot, int i64 a.till] 239 (0, 0)) := zbz (i := 6) h5 (int i64 x.rest)
 have h7 : ((((((((w.setCell ⟨g, 0, none⟩ (int i64 x.kind)).setCell ⟨g, 1, none⟩ (int i64 x.s.t)).setCell ⟨g, 2, none⟩ (int i64 x.s.ser)).setCell ⟨g, 3, none⟩ (int i64 x.s.win)).setCell ⟨g, 4, none⟩ (int i64 x.since)).setCell ⟨g, 5, none⟩ (int i64 x.tries)).setCell ⟨g, 6, none⟩ (int i64 x.rest)).setCell ⟨g, 7, none⟩ (int i64 x.ep)).heap[g]? = some (.cells #[int i64 x.kind, int i64 x.s.t, int i64 x.s.ser, int i64 x.s.win, int i64 x.since, int i64 x.tries, int i64 x.rest, int i64 x.ep, int i64 a.num, int i64 a.slot, int i64 a.till] 239 (0, 0)) := zbz (i := 7) h6 (int i64 x.ep)
 have h8 : (((((((((w.setCell ⟨g, 0, none⟩ (int i64 x.kind)).setCell ⟨g, 1, none⟩ (int i64 x.s.t)).setCell ⟨g, 2, none⟩ (int i64 x.s.ser)).setCell ⟨g, 3, none⟩ (int i64 x.s.win)).setCell ⟨g, 4, none⟩ (int i64 x.since)).setCell ⟨g, 5, none⟩ (int i64 x.tries)).setCell ⟨g, 6, none⟩ (int i64 x.rest)).setCell ⟨g, 7, none⟩ (int i64 x.ep)).setCell ⟨g, 8, none⟩ (int i64 x.num)).heap[g]? = some (.cells #[int i64 x.kind, int i64 x.s.t, int i64 x.s.ser, int i64 x.s.win, int i64 x.since, int i64 x.tries, int i64 x.rest, int i64 x.ep, int i64 x.num, int i64 a.slot, int i64 a.till] 239 (0, 0)) := zbz (i := 8) h7 (int i64 x.num)
 have h9 : ((((((((((w.setCell ⟨g, 0, none⟩ (int i64 x.kind)).setCell ⟨g, 1, none⟩ (int i64 x.s.t)).setCell ⟨g, 2, none⟩ (int i64 x.s.ser)).setCell ⟨g, 3, none⟩ (int i64 x.s.win)).setCell ⟨g, 4, none⟩ (int i64 x.since)).setCell ⟨g, 5, none⟩ (int i64 x.tries)).setCell ⟨g, 6, none⟩ (int i64 x.rest)).setCell ⟨g, 7, none⟩ (int i64 x.ep)).setCell ⟨g, 8, none⟩ (int i64 x.num)).setCell ⟨g, 9, none⟩ (int i64 x.slot)).heap[g]? = some (.cells #[int i64 x.kind, int i64 x.s.t, int i64 x.s.ser, int i64 x.s.win, int i64 x.since, int i64 x.tries, int i64 x.rest, int i64 x.ep, int i64 x.num, int i64 x.slot, int i64 a.till] 239 (0, 0)) := zbz (i := 9) h8 (int i64 x.slot)
 have h10 : (((((((((((w.setCell ⟨g, 0, none⟩ (int i64 x.kind)).setCell ⟨g, 1, none⟩ (int i64 x.s.t)).setCell ⟨g, 2, none⟩ (int i64 x.s.ser)).setCell ⟨g, 3, none⟩ (int i64 x.s.win)).setCell ⟨g, 4, none⟩ (int i64 x.since)).setCell ⟨g, 5, none⟩ (int i64 x.tries)).setCell ⟨g, 6, none⟩ (int i64 x.rest)).setCell ⟨g, 7, none⟩ (int i64 x.ep)).setCell ⟨g, 8, none⟩ (int i64 x.num)).setCell ⟨g, 9, none⟩ (int i64 x.slot)).setCell ⟨g, 10, none⟩ (int i64 x.till)).heap[g]? = some (.cells #[int i64 x.kind, int i64 x.s.t, int i64 x.s.ser, int i64 x.s.win, int i64 x.since, int i64 x.tries, int i64 x.rest, int i64 x.ep, int i64 x.num, int i64 x.slot, int i64 x.till] 239 (0, 0)) := zbz (i := 10) h9 (int i64 x.till)
 exact h10
set_option maxRecDepth 8000 in
set_option maxHeartbeats 8000000 in
theorem settle_any {B : Nat} {w : World} {p : Nat} {m : RM} {tv nv pv gv kv : Value} (h : zbk B w p m tv nv pv gv kv) (hB : B <= w.heap.size) (hc : m.c.ok) (hnl : m.nums.length <= 1000000000) (hgl : m.gone.length <= 1000000000000) (hpl : m.pub.length <= 1000000000000) (hkl : m.tasks.length <= 1000000000000) (hno : ∀ x ∈ m.nums, x.ok) (hnow : 0 <= m.now /\ m.now <= 100000) :
  Calls Tryz.prog 199 #[.pointer (some ⟨p, 0, none⟩)] w fun e w' => e = .returned (.tuple #[]) /\ ∃ kv', zbk B w' p m.settled tv nv pv gv kv' /\ zan (fun k => k = p) w w' /\ ∀ k, kv'.ownBlock = some k -> w.heap.size <= k := by
 have H := zab h
 have HS := zab (segments_any h hc hnl hno)
 have hsl := segsOf_len (nums := m.nums) hc.n4 hnl
 have HM := zab (segs_ok hc hno)
 obtain ⟨ak, ck, hkv⟩ := zah h.krow
 subst hkv
 have hp := h.lt
 have HSET : Hid (m.settled = { m with tasks := zcy m (zax m.c m.nums) (zax m.c m.nums).length }) := rfl
 clear h
 generalize hL : zax m.c m.nums = L at *
 clear hL
 go_enter Tryz.func199, Tryz.ntmps199
 go_wp2_with fail
 refine (ud HS).mono ?_
 rintro e w0 ⟨v, rfl, hv0, hb0⟩
 obtain ⟨al, cl, hvl⟩ := zah hv0
 subst hvl
 have HV0 := zab hv0
 have HB0 := zab hb0
 have hz0 := hb0.size
 clear hv0 hb0
 have HRF := zab (fun (u : World) (hu : Below w0.heap.size w0 u) => (ud H).later ((ud HB0).trans (hu.mono hz0)))
 have HRW := zab (fun (u : World) (hu : Below w0.heap.size w0 u) => zcc (ud HV0) hu)
 go_wp2_with fail
 go_loopw [3, 4, 5, 6, 7, 8] (fun z y _ _ _ _ wr => ∃ (i : Nat), i <= L.length /\ y = int i64 i /\ wr.ownsRow w0.heap.size 239 11 z (zcy m L i).length ((zcy m L i).flatMap tkV) /\ Below w0.heap.size w0 wr) (fun _ y _ _ _ _ _ => L.length - (intOf y).toNat)
 case atStart => exact ⟨0, Nat.zero_le _, rfl, World.ownsRow_nil _ _ _ _, Below.refl _ _⟩
 case round =>
  obtain ⟨i, hi, rfl, hz, hbr⟩ := hrel
  obtain ⟨az, cz, hzv⟩ := zah hz
  subst hzv
  have HZR := zab hz
  have HBR := zab hbr
  have hsll := settle_len m L i hi
  clear hz hbr
  by_cases hil : i < L.length
  ·obtain ⟨s, hs⟩ := zch hil
   have hso := ud HM s (List.mem_of_getElem? hs)
   have hin : (i : Int) < L.length := by omega
   have HSU := zab (settle_succ m L i s hs)
   have HSS := zab hs
   clear hs
   generalize zcy m L i = A at *
   go_wp2_with fail
   go_loopw [3, 5, 6, 7, 8] (fun z y _ _ _ wr => ∃ (q : Nat), q <= 2 /\ y = int i64 ((q : Int) + 1) /\ wr.ownsRow w0.heap.size 239 11 z (midOut m L A s q).length ((midOut m L A s q).flatMap tkV) /\ Below w0.heap.size w0 wr) (fun _ y _ _ _ _ => 3 - (intOf y).toNat)
   case atStart => exact ⟨0, by omega, rfl, ud HZR, ud HBR⟩
   case round =>
    clear HZR HBR
    obtain ⟨q, hq, rfl, hz, hbr⟩ := hrel
    obtain ⟨az2, cz2, hzv⟩ := zah hz
    subst hzv
    have HZR := zab hz
    have HBR := zab hbr
    clear hz hbr
    have hml := mid_len m L A s q
    by_cases hq2 : q < 2
    ·have hq3 : (q : Int) + 1 <= 2 := by omega
     have HRE : Hid (Calls Tryz.prog 221 #[.pointer (some ⟨p, 0, none⟩), int i64 ((q : Int) + 1), .agg #[int i64 s.t, int i64 s.ser, int i64 s.win], .slice al L.length cl] wr fun e w' => e = .returned (.bool (readyK m ((q : Int) + 1) s L)) /\ Below wr.heap.size wr w') := by
      have h1 := ready1_any (ud HRF wr (ud HBR)) hc hgl hpl hnow s hso L _ (by omega) (ud HRW wr (ud HBR)) (ud HM)
      have h2 := ready2_any (ud HRF wr (ud HBR)) hc hgl hpl hnow s hso L _ (by omega) (ud HRW wr (ud HBR)) (ud HM)
      rcases (show q = 0 \/ q = 1 by omega) with rfl | rfl
      ·exact h1
      ·exact h2
     obtain ⟨g, cap', hvn, _, hgz, x0, x1, x2⟩ := sg_at (ud HRW wr (ud HBR)) (ud HSS)
     injection hvn with hvn1 hvn2 hvn3
     subst hvn1
     clear hvn2 hvn3
     have HMID : Hid (midOut m L A s (q + 1) = zfm m L ((q : Int) + 1) (midOut m L A s q) s) := rfl
     generalize midOut m L A s q = P at *
     cases hre : readyK m ((q : Int) + 1) s L
     ·rw [hre] at HRE
      have HST := zab (show zfm m L ((q : Int) + 1) P s = P by simp [zfm, hre])
      clear hre
      go_wp2_with fail
      refine (ud HRE).mono ?_
      rintro e w1 ⟨rfl, hb1⟩
      go_wp2_with fail
      go_roundw
      case rel => exact ⟨q + 1, by omega, by go_num, by rw [ud HMID, ud HST]; exact zcc (ud HZR) hb1, (ud HBR).trans (hb1.mono (ud HBR).size)⟩
      case measure => simp [intOf]; omega
     ·rw [hre] at HRE
      have HST := zab (show zfm m L ((q : Int) + 1) P s = insBy zdh (zea m ((q : Int) + 1) s) P by simp [zfm, hre])
      clear hre
      go_wp2_with fail
      refine (ud HRE).mono ?_
      rintro e w1 ⟨rfl, hb1⟩
      have HB1 := zab ((ud HBR).trans (hb1.mono (ud HBR).size))
      have z0 := (hb1.cell (p := ⟨g, i * 3, none⟩) hgz).trans x0
      have z1 := (hb1.cell (p := ⟨g, i * 3 + 1, none⟩) hgz).trans x1
      have z2 := (hb1.cell (p := ⟨g, i * 3 + 2, none⟩) hgz).trans x2
      obtain ⟨r7, r8, r9, r10, r11, r12, r13⟩ := (ud HRF w1 (ud HB1)).rest
      have hp1 := (ud HRF w1 (ud HB1)).lt
      have hg1 : g < w1.heap.size := Nat.lt_of_lt_of_le hgz hb1.size
      have HZ1 := zab (zcc (ud HZR) hb1)
      clear r8 r9 r10 r11 r12 r13 x0 x1 x2 hb1
      go_wp2_with fail
      go_region
      go_wp2_with fail
      go_loopw [8] (fun y wq => ∃ (k : Nat), k <= m.tasks.length /\ y = int i64 k /\ wq.heap[w1.heap.size]? = some (tkObj ((m.tasks.take k).foldl (zdd ((q : Int) + 1) s) (newTk m ((q : Int) + 1) s))) /\ Below w1.heap.size w1 wq) (fun y _ => m.tasks.length - (intOf y).toNat)
      case atStart => exact ⟨0, Nat.zero_le _, rfl, zap w1 _, ((Below.refl _ _).alloc (Nat.le_refl _) _).drew⟩
      case round =>
       clear z0 z1 z2 r7
       obtain ⟨k, hk, rfl, hT, hbq⟩ := hrel
       have hTz : w1.heap.size < wr.heap.size := zaa hT
       have HQ := zab ((ud HB1).trans (hbq.mono (ud HB1).size))
       have HBQ := zab hbq
       obtain ⟨r7, r8, r9, r10, r11, r12, r13⟩ := (ud HRF wr (ud HQ)).rest
       have hpq := (ud HRF wr (ud HQ)).lt
       obtain ⟨g', cap2, hvn, _, hgq, x0, x1, x2⟩ := sg_at (ud HRW wr (ud HQ)) (ud HSS)
       injection hvn with hvn1 hvn2 hvn3
       cases hvn1
       clear r7 r8 r9 r10 r12 r13 hbq hvn2 hvn3
       by_cases hkl2 : k < m.tasks.length
       ·obtain ⟨x, hx⟩ := zch hkl2
        obtain ⟨gt, capt, hvt, _, hgtz, y0, y1, y2, y3, y4, y5, y6, y7, y8, y9, y10⟩ := tk_at (ud HRF wr (ud HQ)).krow hx
        injection hvt with hvt1 hvt2 hvt3
        subst hvt1
        have HPT := zab (pick_take m ((q : Int) + 1) s k x hx)
        have hkn : (k : Int) < m.tasks.length := by omega
        generalize (m.tasks.take k).foldl (zdd ((q : Int) + 1) s) (newTk m ((q : Int) + 1) s) = T at *
        have HT := zab hT
        clear hx hT hvt2 hvt3
        have hne : Nonempty (zaf wr.heap.size wr) := zaf.some _ _
        have hlc := fun (u : zaf wr.heap.size wr) b o h => u.cell b o h
        by_cases o1 : x.kind = (q : Int) + 1
        ·have o1b : (x.kind == (q : Int) + 1) = true := by simp [o1]
         by_cases o2 : x.s = s
         ·have HPK := zab (pick_yes (t := T) o1 o2)
          have o3 : x.s.t = s.t := by rw [o2]
          have o4 : x.s.ser = s.ser := by rw [o2]
          have o5 : x.s.win = s.win := by rw [o2]
          have p3 : (x.s.t == s.t) = true := by simp [o3]
          have p4 : (x.s.ser == s.ser) = true := by simp [o4]
          have p5 : (x.s.win == s.win) = true := by simp [o5]
          clear o1 o2 o3 o4 o5
          go_wp2_with fail
          refine zad wr.heap.size (by kernel_rfl) (by kernel_rfl) ?_
          repeat (go_big_quiet_step (fail))
          refine wpQuiet_nil ?_
          rintro ⟨w2, hb2⟩
          dsimp only
          clear hlc hne
          have v11 := (hb2.cell (p := ⟨p, 11, none⟩) hpq).trans r11
          have c0 := (hb2.cell (p := ⟨gt, k * 11, none⟩) hgtz).trans y0
          have c1 := (hb2.cell (p := ⟨gt, k * 11 + 1, none⟩) hgtz).trans y1
          have c2 := (hb2.cell (p := ⟨gt, k * 11 + 2, none⟩) hgtz).trans y2
          have c3 := (hb2.cell (p := ⟨gt, k * 11 + 3, none⟩) hgtz).trans y3
          have c4 := (hb2.cell (p := ⟨gt, k * 11 + 4, none⟩) hgtz).trans y4
          have c5 := (hb2.cell (p := ⟨gt, k * 11 + 5, none⟩) hgtz).trans y5
          have c6 := (hb2.cell (p := ⟨gt, k * 11 + 6, none⟩) hgtz).trans y6
          have c7 := (hb2.cell (p := ⟨gt, k * 11 + 7, none⟩) hgtz).trans y7
          have c8 := (hb2.cell (p := ⟨gt, k * 11 + 8, none⟩) hgtz).trans y8
          have c9 := (hb2.cell (p := ⟨gt, k * 11 + 9, none⟩) hgtz).trans y9
          have c10 := (hb2.cell (p := ⟨gt, k * 11 + 10, none⟩) hgtz).trans y10
          have hT2 := (hb2.block _ hTz).trans (ud HT)
          obtain ⟨t0, t1, t2, t3, t4, t5, t6, t7, t8, t9, t10⟩ := obj_cells hT2
          have tf : ∀ j, w2.frozen? ⟨w1.heap.size, j, none⟩ = false := fun j => zaz hT2 j
          have HT2 := zab hT2
          have HB2 := zab hb2
          clear hT2 hb2
          go_wp2_with fail
          go_roundw
          case rel =>
           refine ⟨k + 1, by omega, by go_num, by rw [ud HPT, ud HPK]; exact set11 (ud HT2) x, ?_⟩
           repeat (refine zcu ?_ (Nat.le_refl _))
           exact (ud HBQ).trans ((ud HB2).mono (ud HBQ).size)
          case measure => simp [intOf]; omega
         ·have HPK := zab (pick_no2 (kind := (q : Int) + 1) (t := T) o2)
          have hd := sg_ne o2
          clear o1 o2
          rcases hd with hd | ⟨hd0, hd⟩ | ⟨hd0, hd1, hd⟩
          all_goals
           go_wp2_with fail
           refine zad wr.heap.size (by kernel_rfl) (by kernel_rfl) ?_
           repeat (go_big_quiet_step (fail))
           refine wpQuiet_nil ?_
           rintro ⟨w2, hb2⟩
           dsimp only
           clear hlc hne
           have HT2 := zab ((hb2.block _ hTz).trans (ud HT))
           have HB2 := zab hb2
           clear hb2
           go_wp2_with fail
           go_roundw
           case rel => exact ⟨k + 1, by omega, by go_num, by rw [ud HPT, ud HPK]; exact ud HT2, (ud HBQ).trans ((ud HB2).mono (ud HBQ).size)⟩
           case measure => simp [intOf]; omega
        ·have HPK := zab (pick_no1 (s := s) (t := T) o1)
         have o1b : (x.kind == (q : Int) + 1) = false := by simp [o1]
         clear o1
         go_wp2_with fail
         refine zad wr.heap.size (by kernel_rfl) (by kernel_rfl) ?_
         repeat (go_big_quiet_step (fail))
         refine wpQuiet_nil ?_
         rintro ⟨w2, hb2⟩
         dsimp only
         clear hlc hne
         have HT2 := zab ((hb2.block _ hTz).trans (ud HT))
         have HB2 := zab hb2
         clear hb2
         go_wp2_with fail
         go_roundw
         case rel => exact ⟨k + 1, by omega, by go_num, by rw [ud HPT, ud HPK]; exact ud HT2, (ud HBQ).trans ((ud HB2).mono (ud HBQ).size)⟩
         case measure => simp [intOf]; omega
       ·have hkk : k = m.tasks.length := by omega
        have hTT : (m.tasks.take k).foldl (zdd ((q : Int) + 1) s) (newTk m ((q : Int) + 1) s) = zea m ((q : Int) + 1) s := by rw [hkk, List.take_length]; rfl
        rw [hTT] at hT
        generalize zea m ((q : Int) + 1) s = T at *
        obtain ⟨t0, t1, t2, t3, t4, t5, t6, t7, t8, t9, t10⟩ := obj_cells hT
        have HWI := zab (with_any w0.heap.size P _ T wr (by omega) (zcc (ud HZ1) (ud HBQ)))
        clear hT hTT
        go_wp2_with fail
        refine (ud HWI).mono ?_
        rintro e w4 ⟨v4, rfl, ho4, hb4⟩
        obtain ⟨a4, c4, hv4⟩ := zah ho4
        subst hv4
        have HO4 := zab ho4
        have HB4 := zab ((ud HQ).trans (hb4.mono (ud HQ).size))
        clear ho4 hb4
        go_wp2_with fail
        go_roundw
        case rel => exact ⟨q + 1, by omega, by go_num, by rw [ud HMID, ud HST]; exact owns_base (ud HO4) (by have := (ud HQ).size; omega), ud HB4⟩
        case measure => simp [intOf]; omega
    ·have hqq : q = 2 := by omega
     subst hqq
     go_wp2_with fail
     go_roundw
     case rel => exact ⟨i + 1, by omega, by go_num, by rw [ud HSU]; exact ud HZR, ud HBR⟩
     case measure => simp [intOf]; omega
  ·have hii : i = L.length := by omega
   subst hii
   have hr := ud HRF wr (ud HBR)
   have r11 : wr.cell? ⟨p, 11, none⟩ = some (.slice ak m.tasks.length ck) := by rw [zac hr.head]; rfl
   have rf : ∀ j, wr.frozen? ⟨p, j, none⟩ = false := fun j => zaz hr.head j
   have hbw : Below w.heap.size w wr := (ud HB0).trans ((ud HBR).mono hz0)
   have hpr := hr.lt
   have FIN := zab (hr.setTasks (ts := zcy m L L.length) (owns_base (ud HZR) (show B <= w0.heap.size by omega)))
   have FO := zab (fun k hk => ((ud HZR).lt k hk).1)
   have FK := zab (zag (i := 11) (v := .slice az (zcy m L L.length).length cz) (zcm (zan.refl (fun k => k = p) w) hbw) rfl)
   clear hr
   go_wp2_with fail
   go_end0
   refine ⟨rfl, _, ?_, ud FK, fun k hk => Nat.le_trans hz0 (ud FO k hk)⟩
   rw [ud HSET]
   exact ud FIN
theorem zbk.setNow {B : Nat} {w : World} {p : Nat} {m : RM} {tv nv pv gv kv : Value} (h : zbk B w p m tv nv pv gv kv) (n : Int) : zbk B (w.setCell ⟨p, 7, none⟩ (int i64 n)) p { m with now := n } tv nv pv gv kv := by
 have hk : zan (fun k => k = p) w (w.setCell ⟨p, 7, none⟩ (int i64 n)) := zag (zan.refl _ _) rfl
 exact ⟨zbz (i := 7) h.head (int i64 n), h.base, zae h.trow hk (zau h.head h.trow (by decide)), zae h.nrow hk (zau h.head h.nrow (by decide)), zae h.prow hk (zau h.head h.prow (by decide)), zae h.grow hk (zau h.head h.grow (by decide)), zae h.krow hk (zau h.head h.krow (by decide))⟩
def RM.tick (m : RM) (n : Int) : RM × Int := if n < 1 \/ 1000 < n \/ 100000 < m.now + n then (m, 5) else ({ m with now := m.now + n }.settled, 0)
theorem tick_bad {m : RM} {n : Int} (h : n < 1 \/ 1000 < n \/ 100000 < m.now + n) : m.tick n = (m, 5) := by simp [RM.tick, h]
theorem Tryz.infoNumber : (Tryz.prog.info? 269).map (fun i => (i.zero, i.size, i.bytes)) = some (some (.agg #[int i64 0, int i64 0, .int .i32 0]), 3, 24) := by kernel_rfl
def nmObj (x : Nm) : Obj := .cells #[int i64 x.ser, int i64 x.tm, .int .i32 x.val] 269 (0, 0)
theorem step_push_nm {w : World} {ops : Array Oper} {o : Oper} {a : Act} {K : Act -> World -> Prop} {Q : Exit -> Act -> World -> Prop} {E : Prop} (hgd : o.guard = none) (s x : Operand)
  (ho : o.op = .call { callee := .builtin .append, args := #[s, x], argTypes := #[186, 186] }) (base : Nat) (v : Value) (l : List Nm) (f : Nm) (hs : a.eval s = v) (hown : w.ownsRow base 269 3 v l.length (l.flatMap nmV))
  (B1 : Nat) (hx : a.eval x = .slice (some ⟨B1, 0, none⟩) 1 1) (hB1 : w.heap[B1]? = some (nmObj f)) (hl : l.length <= 1099511627776) (hbase : base <= w.heap.size)
  (h : ∀ g cap w', w'.ownsRow base 269 3 (.slice (some ⟨g, 0, none⟩) (l.length + 1) cap) (l ++ [f]).length ((l ++ [f]).flatMap nmV) -> w.grownBy w' v.ownBlock -> (v.ownBlock = some g \/ g = w.heap.size) -> g < w'.heap.size -> K (a.put o.dst (.slice (some ⟨g, 0, none⟩) (l.length + 1) cap)) w') :
  if Region.wanted o (yielded ops a.tmps) = true then Oper.wp Tryz.prog o a w K Q else E := by
 have hw : Region.wanted o (yielded ops a.tmps) = true := by simp [Region.wanted, hgd]
 rw [if_pos hw]
 have hinfo := Tryz.infoNumber
 cases hq : Tryz.prog.info? 269 with
 | none => simp [hq] at hinfo
 | some i =>
  simp only [hq, Option.map_some, Option.some.injEq, Prod.mk.injEq] at hinfo
  obtain ⟨hz, hsize, hby⟩ := hinfo
  obtain ⟨g, cap, w', hr, h2, _, h4, h5, h6⟩ := run_append_keep (P := Tryz.prog) w 186 o.type base 269 i _ 3 24 Tryz.underlying186 hq hz hsize hby rfl (by decide) v l.length (l.flatMap nmV) hown ⟨B1, 0, none⟩ 1 1 (nmV f) rfl
   (World.news_of_block (cs := (nmV f).toArray) hB1) (nmV_one f) (by decide) (by simp only [maxLen]; omega) (by omega) hbase
  unfold Oper.wp
  simp [execOp, ho, resolve, invoke, builtin, hs, hx, hr, Result.andThen]
  exact h g cap w' (flat_row h2) h4 h5 h6
theorem rowns_drew {w : World} {base size n : Nat} {e : TypeId} {v : Value} {xs : List Value} (h : w.ownsRow base e size v n xs) : w.drew.ownsRow base e size v n xs := h
theorem rgrown_drew {w w' : World} {row : Option Nat} (h : w.drew.grownBy w' row) : w.grownBy w' row := ⟨h.os, h.tape, h.output, h.size, h.block⟩
theorem rlast_drew (w : World) (o : Obj) : (w.alloc o).drew.heap[w.heap.size]? = some o := zap w o
theorem rsize_drew (w : World) (o : Obj) : (w.alloc o).drew.heap.size = w.heap.size + 1 := zbd w o
theorem zfb {w : World} {B1 B2 s1 s2 n1 n2 : Nat} {e1 e2 : TypeId} {v1 v2 : Value} {x1 x2 : List Value} (h1 : w.ownsRow B1 e1 s1 v1 n1 x1) (h2 : w.ownsRow B2 e2 s2 v2 n2 x2) (hT : e1 ≠ e2) : ∀ k, v1.ownBlock = some k -> ¬ v2.ownBlock = some k := fun k hk hk2 => by
 obtain ⟨c1, hc1⟩ := zbp h1 hk
 obtain ⟨c2, hc2⟩ := zbp h2 hk2
 rw [hc1] at hc2
 injection hc2 with hc; injection hc with _ hc; exact hT hc
theorem zbk.setNums {B : Nat} {w w5 : World} {p : Nat} {m : RM} {tv nv pv gv kv z : Value} {x : Nm} (h : zbk B w p m tv nv pv gv kv) (hk : zan (fun k => nv.ownBlock = some k) w w5) (hown : w5.ownsRow B 269 3 z (m.nums ++ [x]).length ((m.nums ++ [x]).flatMap nmV)) : zbk B (w5.setCell ⟨p, 8, none⟩ z) p { m with nums := m.nums ++ [x] } tv z pv gv kv := by
 have hp5 := hk.heap h.head (fun e => zau h.head h.nrow (by decide) p e rfl)
 have hs : zan (fun k => k = p) w5 (w5.setCell ⟨p, 8, none⟩ z) := zag (zan.refl _ _) rfl
 have a1 := zae h.trow hk (zfb h.trow h.nrow (by decide))
 have a2 := zae h.prow hk (zfb h.prow h.nrow (by decide))
 have a3 := zae h.grow hk (zfb h.grow h.nrow (by decide))
 have a4 := zae h.krow hk (zfb h.krow h.nrow (by decide))
 exact ⟨zbz (i := 8) hp5 z, h.base, zae a1 hs (zau hp5 a1 (by decide)), zae hown hs (zau hp5 hown (by decide)), zae a2 hs (zau hp5 a2 (by decide)), zae a3 hs (zau hp5 a3 (by decide)), zae a4 hs (zau hp5 a4 (by decide))⟩
def zew (m : RM) (L : List Sg) (x : Nm) (k : Nat) : Int := (List.range k).foldl (fun (c : Int) (t : Nat) => if zar m.c (t : Int) x ∈ L then c else c + 2) (m.used + 1)
theorem cost_in {m : RM} {L : List Sg} {x : Nm} {k : Nat} (h : zar m.c (k : Int) x ∈ L) : zew m L x (k + 1) = zew m L x k := by simp [zew, List.range_succ, h]
theorem cost_out {m : RM} {L : List Sg} {x : Nm} {k : Nat} (h : ¬ zar m.c (k : Int) x ∈ L) : zew m L x (k + 1) = zew m L x k + 2 := by simp [zew, List.range_succ, h]
theorem cost_bounds (m : RM) (L : List Sg) (x : Nm) : ∀ k : Nat, m.used + 1 <= zew m L x k /\ zew m L x k <= m.used + 1 + 2 * k
 | 0 => by simp [zew]
 | k + 1 => by
  have := cost_bounds m L x k
  by_cases h : zar m.c (k : Int) x ∈ L
  ·rw [cost_in h]; omega
  ·rw [cost_out h]; omega
def RM.ingest (m : RM) (ser tm val : Int) : RM × Int :=
 if ser < 0 \/ 4 <= ser then (m, 2)
 else if tm < 0 \/ m.now < tm then (m, 5)
 else if tm < m.now - m.c.la then (m, 3)
 else if m.c.qu < zew m (zax m.c m.nums) ⟨ser, tm, val⟩ m.c.n then (m, 4)
 else ({ m with nums := m.nums ++ [Nm.mk ser tm val] }.settled, 0)
theorem ingest_arg {m : RM} {ser tm val : Int} (h : ser < 0 \/ 4 <= ser) : m.ingest ser tm val = (m, 2) := by simp [RM.ingest, h]
theorem ingest_time {m : RM} {ser tm val : Int} (h : ¬ (ser < 0 \/ 4 <= ser)) (h1 : tm < 0 \/ m.now < tm) : m.ingest ser tm val = (m, 5) := by unfold RM.ingest; rw [if_neg h, if_pos h1]
theorem ingest_late {m : RM} {ser tm val : Int} (h : ¬ (ser < 0 \/ 4 <= ser)) (h1 : ¬ (tm < 0 \/ m.now < tm)) (h2 : tm < m.now - m.c.la) : m.ingest ser tm val = (m, 3) := by unfold RM.ingest; rw [if_neg h, if_neg h1, if_pos h2]
theorem ingest_full {m : RM} {ser tm val : Int} (h : ¬ (ser < 0 \/ 4 <= ser)) (h1 : ¬ (tm < 0 \/ m.now < tm)) (h2 : ¬ tm < m.now - m.c.la) (h3 : m.c.qu < zew m (zax m.c m.nums) ⟨ser, tm, val⟩ m.c.n) : m.ingest ser tm val = (m, 4) := by unfold RM.ingest; rw [if_neg h, if_neg h1, if_neg h2, if_pos h3]
theorem ingest_ok {m : RM} {ser tm val : Int} (h : ¬ (ser < 0 \/ 4 <= ser)) (h1 : ¬ (tm < 0 \/ m.now < tm)) (h2 : ¬ tm < m.now - m.c.la) (h3 : ¬ m.c.qu < zew m (zax m.c m.nums) ⟨ser, tm, val⟩ m.c.n) : m.ingest ser tm val = ({ m with nums := m.nums ++ [Nm.mk ser tm val] }.settled, 0) := by unfold RM.ingest; rw [if_neg h, if_neg h1, if_neg h2, if_neg h3]
def ingPost (B : Nat) (w : World) (p : Nat) (m : RM) (tv nv pv gv kv : Value) (w' : World) : Prop :=
 ∃ nv' kv', zbk B w' p m tv nv' pv gv kv' /\ zan (fun k => k = p \/ nv.ownBlock = some k) w w' /\ (∀ k, nv'.ownBlock = some k -> nv.ownBlock = some k \/ w.heap.size <= k) /\ ∀ k, kv'.ownBlock = some k -> kv.ownBlock = some k \/ w.heap.size <= k
theorem zex {B : Nat} {w w' : World} {p : Nat} {m : RM} {tv nv pv gv kv : Value} (h : zbk B w p m tv nv pv gv kv) (hb : Below w.heap.size w w') : ingPost B w p m tv nv pv gv kv w' :=
 ⟨nv, kv, h.later hb, zan.of_below hb, fun _ h => .inl h, fun _ h => .inl h⟩
set_option maxRecDepth 8000 in
set_option maxHeartbeats 8000000 in
theorem ringest_any {B : Nat} {w : World} {p : Nat} {m : RM} {tv nv pv gv kv : Value} (h : zbk B w p m tv nv pv gv kv) (hB : B <= w.heap.size) (hc : m.c.ok) (hnl : m.nums.length <= 100000000) (hgl : m.gone.length <= 1000000000000) (hpl : m.pub.length <= 1000000000000) (hkl : m.tasks.length <= 1000000000000) (hno : ∀ x ∈ m.nums, x.ok) (hnow : 0 <= m.now /\ m.now <= 100000) (hu : m.used <= 1000000000000000000) (ser tm val : Int) (hval : -2147483648 <= val /\ val <= 2147483647) :
  Calls Tryz.prog 152 #[.pointer (some ⟨p, 0, none⟩), int i64 ser, int i64 tm, .int .i32 val] w fun e w' => e = .returned (int i64 (m.ingest ser tm val).2) /\ ingPost B w p (m.ingest ser tm val).1 tv nv pv gv kv w' := by
 obtain ⟨hw1, hw2⟩ := hnow
 obtain ⟨r7, r8, r9, r10, r11, r12, r13⟩ := h.rest
 have hp := h.lt
 obtain ⟨c0, c1, c2, c3, c4, c5, c6⟩ := h.conf
 obtain ⟨hl1, hl2⟩ := hc.la
 have H := zab h
 obtain ⟨an, cn, hnv⟩ := zah h.nrow
 subst hnv
 obtain ⟨at_, ct, htv⟩ := zah h.trow
 subst htv
 clear r8 r9 r10 r11 r12 r13 h c0 c1 c3 c4 c5 c6
 by_cases e1 : ser < 0
 ·rw [ingest_arg (.inl e1)]
  go_enter Tryz.func152, Tryz.ntmps152
  go_wp2_with fail
  go_ret
  exact ⟨rfl, zex (ud H) (Below.refl _ _)⟩
 by_cases e2 : 4 <= ser
 ·rw [ingest_arg (.inr e2)]
  go_enter Tryz.func152, Tryz.ntmps152
  go_wp2_with fail
  go_ret
  exact ⟨rfl, zex (ud H) (Below.refl _ _)⟩
 by_cases e3 : tm < 0
 ·rw [ingest_time (by omega) (.inl e3)]
  go_enter Tryz.func152, Tryz.ntmps152
  go_wp2_with fail
  go_ret
  exact ⟨rfl, zex (ud H) (Below.refl _ _)⟩
 by_cases e4 : m.now < tm
 ·rw [ingest_time (by omega) (.inr e4)]
  go_enter Tryz.func152, Tryz.ntmps152
  go_wp2_with fail
  go_ret
  exact ⟨rfl, zex (ud H) (Below.refl _ _)⟩
 have hne : Nonempty (zaf w.heap.size w) := zaf.some _ _
 have hlc := fun (u : zaf w.heap.size w) b o h => u.cell b o h
 by_cases e5 : tm < m.now - m.c.la
 ·rw [ingest_late (by omega) (by omega) e5]
  go_enter Tryz.func152, Tryz.ntmps152
  go_wp2_with fail
  refine zad w.heap.size (by kernel_rfl) (by kernel_rfl) ?_
  repeat (go_big_quiet_step (fail))
  refine wpQuiet_nil ?_
  rintro ⟨w1, hb1⟩
  dsimp only
  clear hlc hne
  go_wp2_with fail
  go_ret
  exact ⟨rfl, zex (ud H) hb1⟩
 have hxo : (Nm.mk ser tm val).ok := ⟨hval.1, hval.2, by show 0 <= tm; omega, by show tm <= 100000; omega, by show 0 <= ser; omega, by show ser < 4; omega⟩
 have hsl := segsOf_len (nums := m.nums) hc.n4 (by omega)
 have hub := used_small (c := m.c) (rc := m.gone) (l := zax m.c m.nums) hsl (by omega) hno
 have hu0 : 0 <= m.used := hub.1
 have HFULL := zab (ingest_full (m := m) (ser := ser) (tm := tm) (val := val) (by omega) (by omega) (by omega))
 have HOK := zab (ingest_ok (m := m) (ser := ser) (tm := tm) (val := val) (by omega) (by omega) (by omega))
 have hn4 := hc.n4
 obtain ⟨hq1, hq2⟩ := hc.qu
 clear hub
 go_enter Tryz.func152, Tryz.ntmps152
 go_wp2_with fail
 refine zad w.heap.size (by kernel_rfl) (by kernel_rfl) ?_
 repeat (go_big_quiet_step (fail))
 refine wpQuiet_nil ?_
 rintro ⟨w1, hb1⟩
 dsimp only
 clear hlc hne
 have hbX : Below w.heap.size w (w1.alloc (nmObj ⟨ser, tm, val⟩)) := hb1.alloc hb1.size _
 have hXl := zap w1 (nmObj ⟨ser, tm, val⟩)
 have hXz := zbd w1 (nmObj ⟨ser, tm, val⟩)
 have HSG := zab (segments_any ((ud H).later hbX) hc (by omega) hno)
 have hw1z := hb1.size
 clear hb1 r7 c2
 go_wp2_with fail
 change Calls Tryz.prog _ _ (w1.alloc (nmObj ⟨ser, tm, val⟩)) _
 generalize (w1.alloc (nmObj ⟨ser, tm, val⟩)) = X at *
 refine (ud HSG).mono ?_
 rintro e w2 ⟨v, rfl, hv2, hb2⟩
 obtain ⟨al, cl, hvl⟩ := zah hv2
 subst hvl
 have HV2 := zab hv2
 have HB2 := zab hb2
 have hb02 : Below w.heap.size w w2 := hbX.trans (hb2.mono hbX.size)
 have HUS := zab (used_any ((ud H).later hb02) hc (by omega) hgl hno)
 clear hv2 HSG
 go_wp2_with fail
 refine (ud HUS).mono ?_
 rintro e w3 ⟨rfl, hb3⟩
 have hb23 : Below X.heap.size X w3 := hb2.trans (hb3.mono hb2.size)
 have HB23 := zab hb23
 have hb03 : Below w.heap.size w w3 := hbX.trans (hb23.mono hbX.size)
 have HB03 := zab hb03
 have HV3 := zab (zcc (ud HV2) hb3)
 have HX3 := zab ((hb23.block w1.heap.size (by omega)).trans hXl)
 have hz03 := hb03.size
 have HXZ := zab hXz
 clear hb2 hb3 hb23 hb03 hXl hXz hb02 HUS hbX
 generalize hL : zax m.c m.nums = L at *
 have HCB := zab (cost_bounds m L ⟨ser, tm, val⟩)
 go_wp2_with fail
 go_loopw [11, 12, 13, 14] (fun z y _ _ wr => ∃ (k : Nat), k <= m.c.n /\ y = int i64 k /\ z = int i64 (zew m L ⟨ser, tm, val⟩ k) /\ Below w3.heap.size w3 wr) (fun _ y _ _ _ => m.c.n - (intOf y).toNat)
 case atStart => exact ⟨0, Nat.zero_le _, rfl, by simp [zew], Below.refl _ _⟩
 case round =>
  obtain ⟨k, hk, rfl, rfl, hbr⟩ := hrel
  have HBR := zab hbr
  have hb0r : Below w.heap.size w wr := (ud HB03).trans (hbr.mono hz03)
  have HR := zab ((ud H).later hb0r)
  have HB0R := zab hb0r
  obtain ⟨c0, c1, c2, c3, c4, c5, c6⟩ := (ud HR).conf
  have hpr := (ud HR).lt
  have hbx := (hbr.block w1.heap.size (zaa (ud HX3))).trans (ud HX3)
  have HBX := zab hbx
  have hcb := ud HCB k
  obtain ⟨hcb1, hcb2⟩ := hcb
  have hwz := zaa hbx
  have HVR := zab (zcc (ud HV3) hbr)
  clear c0 c1 c2 c3 c4 hbr hb0r
  by_cases hkm : k < m.c.n
  ·have n0 : wr.cell? ⟨w1.heap.size, 0, none⟩ = some (int i64 ser) := by rw [zac hbx]; rfl
   have n1 : wr.cell? ⟨w1.heap.size, 1, none⟩ = some (int i64 tm) := by rw [zac hbx]; rfl
   have n2 : wr.cell? ⟨w1.heap.size, 2, none⟩ = some (.int .i32 val) := by rw [zac hbx]; rfl
   have hkn : (k : Int) < m.c.n := by omega
   have HSE := zab (segment_any (ud HR) hc (k : Int) (by omega) hkn ⟨ser, tm, val⟩ hxo)
   clear hbx c5
   go_wp2_with fail
   refine (ud HSE).mono ?_
   rintro e w4 ⟨rfl, hb4⟩
   have HCI := zab (cost_in (m := m) (L := L) (x := ⟨ser, tm, val⟩) (k := k))
   have HCO := zab (cost_out (m := m) (L := L) (x := ⟨ser, tm, val⟩) (k := k))
   generalize zew m L ⟨ser, tm, val⟩ k = C at *
   generalize zar m.c (k : Int) ⟨ser, tm, val⟩ = sg at *
   have hbo : ∀ o, Below wr.heap.size wr (w4.alloc o) := fun o => hb4.alloc hb4.size _
   have HAM := zab (zca X.heap.size L _ sg _ (by omega) (zcc (ud HVR) (hbo (.cells #[int i64 sg.t, int i64 sg.ser, int i64 sg.win] 232))))
   have HBO := zab (hbo (.cells #[int i64 sg.t, int i64 sg.ser, int i64 sg.win] 232))
   clear hbo hb4
   rcases zey sg L with ⟨hm, hm2⟩ | ⟨hm, hm2⟩
   ·rw [hm] at HAM
    have HCC := zab (ud HCI hm2)
    clear hm hm2
    go_wp2_with fail
    refine (ud HAM).mono ?_
    rintro e w5 ⟨rfl, hb5⟩
    have FB := zab ((ud HBR).trans (((ud HBO).trans (hb5.mono (ud HBO).size)).mono (ud HBR).size))
    go_wp2_with fail
    go_roundw
    case rel => exact ⟨k + 1, by omega, by go_num, by rw [ud HCC], ud FB⟩
    case measure => simp [intOf]; omega
   ·rw [hm] at HAM
    have HCC := zab (ud HCO hm2)
    clear hm hm2
    go_wp2_with fail
    refine (ud HAM).mono ?_
    rintro e w5 ⟨rfl, hb5⟩
    have FB := zab ((ud HBR).trans (((ud HBO).trans (hb5.mono (ud HBO).size)).mono (ud HBR).size))
    go_wp2_with fail
    go_roundw
    case rel => exact ⟨k + 1, by omega, by go_num, by rw [ud HCC], ud FB⟩
    case measure => simp [intOf]; omega
  ·have hkk : k = m.c.n := by omega
   subst hkk
   by_cases hfull : m.c.qu < zew m L ⟨ser, tm, val⟩ m.c.n
   ·have HF := zab (ud HFULL hfull)
    generalize zew m L ⟨ser, tm, val⟩ m.c.n = C at *
    go_wp2_with fail
    go_ret
    rw [ud HF]
    exact ⟨rfl, zex (ud H) (ud HB0R)⟩
   ·have HF := zab (ud HOK (by omega))
    generalize zew m L ⟨ser, tm, val⟩ m.c.n = C at *
    go_wp2_with fail
    have n0 : wr.cell? ⟨w1.heap.size, 0, none⟩ = some (int i64 ser) := by rw [zac hbx]; rfl
    have n1 : wr.cell? ⟨w1.heap.size, 1, none⟩ = some (int i64 tm) := by rw [zac hbx]; rfl
    have n2 : wr.cell? ⟨w1.heap.size, 2, none⟩ = some (.int .i32 val) := by rw [zac hbx]; rfl
    have r8 : wr.cell? ⟨p, 8, none⟩ = some (.slice an m.nums.length cn) := by rw [zac (ud HR).head]; rfl
    have rf : wr.frozen? ⟨p, 8, none⟩ = false := zaz (ud HR).head 8
    have HROW := zab (ud HR).nrow
    have hBr : B <= wr.heap.size := Nat.le_trans hB (ud HB0R).size
    have za : ∀ o : Obj, (wr.alloc o).cell? ⟨p, 8, none⟩ = some (.slice an m.nums.length cn) := fun o => (((Below.refl wr.heap.size wr).alloc (Nat.le_refl _) o).cell (p := ⟨p, 8, none⟩) hpr).trans r8
    clear hbx
    go_region_law (refine step_push_nm rfl (.tmp 84) (.tmp 86) rfl B _ m.nums ⟨ser, tm, val⟩ (by simp [Act.eval]) (rowns_drew ((ud HROW).alloc _)) wr.heap.size (by simp [Act.eval]) (rlast_drew wr (nmObj ⟨ser, tm, val⟩)) ?hll ?hbb ?_; (case hll => omega); (case hbb => (rw [rsize_drew]; omega)); intro g3 cap3 w5 hown hgrow0 hat hlt3; have hgrow := rgrown_drew hgrow0; clear hgrow0; have hk5 : zan (fun k => (Value.slice an m.nums.length cn).ownBlock = some k) wr w5 := zan.grown ((zan.refl _ _).alloc _) hgrow (fun k hk _ => hk); have hp5 : w5.heap[p]? = wr.heap[p]? := (hk5.block p hpr (fun e => zau (ud HR).head (ud HROW) (by decide) p e rfl)); have d0 := (World.cell?_of_block (a := ⟨p, 8, none⟩) hp5).trans r8; have d1 := (World.frozen?_of_block (a := ⟨p, 8, none⟩) hp5).trans rf)
    all_goals
     have H5 := zab ((ud HR).setNums hk5 hown)
     have h5z : wr.heap.size <= w5.heap.size := hk5.size
     have h5s : (w5.setCell ⟨p, 8, none⟩ (.slice (some ⟨g3, 0, none⟩) (m.nums.length + 1) cap3)).heap.size = w5.heap.size := by simp [World.setCell]
     have hw0r := (ud HB0R).size
     have HSE := zab (settle_any (ud H5) (by omega) hc (by show (m.nums ++ [Nm.mk ser tm val]).length <= 1000000000; simp; omega) hgl hpl hkl (fun x hx => by
      rcases List.mem_append.1 hx with hx | hx
      ·exact hno x hx
      ·rw [List.mem_singleton.1 hx]; exact hxo) ⟨hw1, hw2⟩)
     have HAT := zab hat
     have HK5 := zab hk5
     clear hat hk5 hown hgrow
     go_wp2_with fail
     refine (ud HSE).mono ?_
     rintro e w6 ⟨rfl, kv', hr6, hk6, hf6⟩
     have HR6 := zab hr6
     clear hr6
     go_wp2_with fail
     go_ret
     rw [ud HF]
     refine ⟨rfl, _, kv', ud HR6, ?_, fun k hk => ?_, fun k hk => .inr ?_⟩
     ·have k1 : zan (fun k => k = p \/ (Value.slice an m.nums.length cn).ownBlock = some k) w wr := zan.of_below (ud HB0R)
      have k2 := k1.trans (ud HK5) (fun _ _ h => .inr h)
      have k3 := zag (i := 8) (g := p) (v := .slice (some ⟨g3, 0, none⟩) (m.nums.length + 1) cap3) k2 (.inl rfl)
      exact k3.trans hk6 (fun _ _ h => .inl h)
     ·simp [Value.ownBlock] at hk
      subst hk
      rcases ud HAT with h | h
      ·exact .inl h
      ·right; rw [rsize_drew] at h; omega
     ·have := hf6 k hk; omega
end Go.Proofs.YtpbimdkclnekeaaGreat

namespace Go.Proofs.YtpbimdkclnekeaaGreat
set_option linter.unusedVariables false
structure SV where
 st : Int
 cl : Cl
abbrev LV := List (Sg × SV)
def zds : Cl := ⟨0, 0, 0, 0⟩
def zam (L : LV) : List Sg := L.map (·.1)
def getL (L : LV) (s : Sg) : Option SV := (L.find? (fun p => decide (p.1 = s))).map (·.2)
def putL (L : LV) (s : Sg) (v : SV) : LV := if s ∈ zam L then L.map (fun p => if p.1 = s then (s, v) else p) else L ++ [(s, v)]
def stL (L : LV) (s : Sg) : SV := (getL L s).getD ⟨0, zds⟩
def zfn (v : SV) : Int := if v.st = 1 then v.cl.cnt else 2
def zcx : List Int -> Int
 | [] => 0
 | a :: l => a + zcx l
def zby (L : LV) : Int := zcx (L.map (fun p => zfn p.2))
def isSt (k : Int) (v : SV) : Int := if v.st = k then 1 else 0
def zcv (L : LV) (k : Int) : Int := zcx (L.map (fun p => isSt k p.2))
theorem sumI_append (a b : List Int) : zcx (a ++ b) = zcx a + zcx b := by
 induction a with
 | nil => simp [zcx]
 | cons x l ih => simp only [List.cons_append, zcx, ih]; omega
theorem sumI_perm {a b : List Int} (h : a.Perm b) : zcx a = zcx b := by
 induction h with
 | nil => rfl
 | cons x _ ih => simp only [zcx, ih]
 | swap x y l => simp only [zcx]; omega
 | trans _ _ h1 h2 => exact h1.trans h2
theorem sumI_foldl {α : Type} (f : α -> Int) : ∀ (l : List α) (u : Int), l.foldl (fun n s => n + f s) u = u + zcx (l.map f)
 | [], u => by simp [zcx]
 | a :: l, u => by rw [List.foldl_cons, sumI_foldl f l (u + f a)]; simp only [List.map_cons, zcx]; omega
theorem zfg {L : LV} {s : Sg} : getL L s = none ↔ s ∉ zam L := by
 unfold getL zam
 rw [Option.map_eq_none_iff, List.find?_eq_none]
 simp only [decide_eq_true_eq, List.mem_map]
 constructor
 ·rintro h ⟨p, hp, rfl⟩; exact h p hp rfl
 ·rintro h p hp e; exact h ⟨p, hp, e⟩
theorem getL_mem {L : LV} {s : Sg} {v : SV} (h : getL L s = some v) : (s, v) ∈ L := by
 unfold getL at h
 rw [Option.map_eq_some_iff] at h
 obtain ⟨p, hp, rfl⟩ := h
 have h1 := List.find?_some hp
 have h2 := List.mem_of_find?_eq_some hp
 simp at h1; subst h1; exact h2
theorem getL_of {L : LV} {s : Sg} (h : s ∈ zam L) : ∃ v, getL L s = some v /\ (s, v) ∈ L := by
 cases e : getL L s with
 | none => exact absurd h (zfg.1 e)
 | some v => exact ⟨v, rfl, getL_mem e⟩
theorem zcw {L : LV} {s : Sg} {v : SV} {k : Sg} : k ∈ zam (putL L s v) ↔ k ∈ zam L \/ k = s := by
 unfold putL
 by_cases h : s ∈ zam L
 ·rw [if_pos h]
  have : zam (L.map (fun p => if p.1 = s then (s, v) else p)) = zam L := by
   unfold zam
   rw [List.map_map]
   apply List.map_congr_left
   intro p _
   simp only [Function.comp]
   split <;> simp_all
  rw [this]
  constructor
  ·exact .inl
  ·rintro (h1 | rfl) <;> assumption
 ·rw [if_neg h]; simp [zam]
theorem nodup_putL {L : LV} {s : Sg} {v : SV} (h : (zam L).Nodup) : (zam (putL L s v)).Nodup := by
 unfold putL
 by_cases hs : s ∈ zam L
 ·rw [if_pos hs]
  have : zam (L.map (fun p => if p.1 = s then (s, v) else p)) = zam L := by
   unfold zam
   rw [List.map_map]
   apply List.map_congr_left
   intro p _
   simp only [Function.comp]
   split <;> simp_all
  rw [this]; exact h
 ·rw [if_neg hs]
  unfold zam at *
  rw [List.map_append, List.nodup_append]
  refine ⟨h, by simp, fun a ha b hb => ?_⟩
  simp at hb; subst hb; intro e; subst e; exact hs ha
theorem zde {L : LV} {s : Sg} {v : SV} {p : Sg × SV} (h : p ∈ putL L s v) : p = (s, v) \/ (p ∈ L /\ p.1 ≠ s) := by
 unfold putL at h
 by_cases hs : s ∈ zam L
 ·rw [if_pos hs, List.mem_map] at h
  obtain ⟨q, hq, rfl⟩ := h
  by_cases e : q.1 = s
  ·left; simp [e]
  ·right; simp [e, hq]
 ·rw [if_neg hs, List.mem_append] at h
  rcases h with h | h
  ·right; exact ⟨h, fun e => hs (by unfold zam; exact List.mem_map.2 ⟨p, h, e⟩)⟩
  ·left; simpa using h
theorem sum_put_new {L : LV} {s : Sg} {v : SV} (f : SV -> Int) (h : s ∉ zam L) : zcx ((putL L s v).map (fun p => f p.2)) = zcx (L.map (fun p => f p.2)) + f v := by
 unfold putL; rw [if_neg h, List.map_append, sumI_append]; simp [zcx]
theorem map_absent {L : LV} {s : Sg} {v : SV} (f : SV -> Int) : s ∉ zam L -> (L.map (fun p => if p.1 = s then (s, v) else p)).map (fun p => f p.2) = L.map (fun p => f p.2) := by
 intro h
 rw [List.map_map]
 apply List.map_congr_left
 intro p hp
 have : ¬ p.1 = s := fun e => h (by unfold zam; exact List.mem_map.2 ⟨p, hp, e⟩)
 simp [this]
theorem sum_put_old {s : Sg} {u v : SV} (f : SV -> Int) : ∀ {L : LV}, (zam L).Nodup -> (s, u) ∈ L -> zcx ((L.map (fun p => if p.1 = s then (s, v) else p)).map (fun p => f p.2)) = zcx (L.map (fun p => f p.2)) - f u + f v
 | [], _, h => by simp at h
 | q :: L, hn, h => by
  unfold zam at hn
  rw [List.map_cons, List.nodup_cons] at hn
  rw [List.mem_cons] at h
  rcases h with rfl | h
  ·have hm := map_absent (L := L) (s := s) (v := v) f hn.1
   rw [List.map_cons, List.map_cons, List.map_cons, hm]
   simp only [zcx, if_true]; omega
  ·have hq : ¬ q.1 = s := fun e => hn.1 (by rw [e]; exact List.mem_map.2 ⟨_, h, rfl⟩)
   have := sum_put_old f (L := L) (s := s) (u := u) (v := v) hn.2 h
   rw [List.map_cons, List.map_cons, List.map_cons]
   simp only [hq, if_false, zcx]
   rw [this]; omega
def heldV (c : Cf) (nums : List Nm) (s : Sg) : SV := if s.t = -1 then ⟨1, zbs c s nums⟩ else ⟨2, zds⟩
section
variable {c : Cf} {nums : List Nm} {L : LV}
end
theorem cell_zero {c : Cf} {s : Sg} : ∀ (nums : List Nm) (a : Cl), (∀ x ∈ nums, ¬ zar c s.t x = s) -> nums.foldl (zdv c s) a = a
 | [], a, _ => rfl
 | x :: r, a, h => by
  rw [List.foldl_cons, zdv, if_neg (h x (by simp))]
  exact cell_zero r a (fun y hy => h y (by simp [hy]))
theorem cell_mono {c : Cf} {s : Sg} : ∀ (nums : List Nm) (a : Cl), a.cnt <= (nums.foldl (zdv c s) a).cnt
 | [], a => Int.le_refl _
 | x :: r, a => by
  rw [List.foldl_cons]
  have := cell_mono (c := c) (s := s) r (zdv c s a x)
  have h2 : a.cnt <= (zdv c s a x).cnt := by
   unfold zdv; split
   ·simp only [addCl]; omega
   ·omega
  omega
theorem cell_pos {c : Cf} {s : Sg} : ∀ (nums : List Nm) (a : Cl), 0 <= a.cnt -> (∃ x ∈ nums, zar c s.t x = s) -> 1 <= (nums.foldl (zdv c s) a).cnt
 | [], a, _, h => by obtain ⟨x, hx, _⟩ := h; simp at hx
 | x :: r, a, h0, h => by
  rw [List.foldl_cons]
  by_cases hx : zar c s.t x = s
  ·have := cell_mono (c := c) (s := s) r (zdv c s a x)
   have h2 : (zdv c s a x).cnt = a.cnt + 1 := by simp [zdv, hx, addCl]
   omega
  ·have h2 : zdv c s a x = a := by simp [zdv, hx]
   rw [h2]
   obtain ⟨y, hy, e⟩ := h
   rw [List.mem_cons] at hy
   rcases hy with rfl | hy
   ·exact absurd e hx
   ·exact cell_pos r a h0 ⟨y, hy, e⟩
theorem cnt_zero_iff {c : Cf} {nums : List Nm} {s : Sg} (h1 : -1 <= s.t) (h2 : s.t < c.n) : (zbs c s nums).cnt = 0 ↔ s ∉ zax c nums := by
 constructor
 ·intro h hm
  obtain ⟨_, _, x, hx, e⟩ := mem_segsOf.1 hm
  have := cell_pos (c := c) (s := s) nums ⟨0, 0, 0, 0⟩ (by simp) ⟨x, hx, e.symm⟩
  unfold zbs at h; omega
 ·intro h
  have : zbs c s nums = ⟨0, 0, 0, 0⟩ := cell_zero nums _ (fun x hx e => h (mem_segsOf.2 ⟨h1, h2, x, hx, e.symm⟩))
  rw [this]
def zdy (v : Int) : Option Cl -> Cl
 | none => ⟨1, v, v, v⟩
 | some o => ⟨1 + o.cnt, v + o.sum, if o.mn < v then o.mn else v, if v < o.mx then o.mx else v⟩
def zbx (c : Cf) (x : Nm) : Sg := zar c (-1) x
def zct (c : Cf) (L : LV) (x : Nm) : LV := putL L (zbx c x) ⟨1, zdy x.val ((getL L (zbx c x)).map (·.cl))⟩
def zdc (c : Cf) (x : Nm) (k : Nat) (L : LV) : LV := if zar c (k : Int) x ∈ zam L then L else putL L (zar c (k : Int) x) ⟨2, zds⟩
def addTo (c : Cf) (x : Nm) : Nat -> LV -> LV
 | 0, L => L
 | k + 1, L => zdc c x k (addTo c x k L)
def addL (c : Cf) (L : LV) (x : Nm) : LV := addTo c x c.n (zct c L x)
def zeq (c : Cf) (L : LV) (x : Nm) : Nat -> Int
 | 0 => 0
 | k + 1 => zeq c L x k + (if zar c (k : Int) x ∈ zam L then 0 else 1)
theorem missL_bounds (c : Cf) (L : LV) (x : Nm) : ∀ k : Nat, 0 <= zeq c L x k /\ zeq c L x k <= k
 | 0 => by simp [zeq]
 | k + 1 => by have := missL_bounds c L x k; simp only [zeq]; split <;> omega
section
variable {c : Cf} {nums : List Nm} {L : LV}
theorem seg_ne {x : Nm} {i j : Int} (h : i ≠ j) : zar c i x ≠ zar c j x := fun e => h (by injection e)
structure Mid (c : Cf) (nums : List Nm) (x : Nm) (k : Nat) (L : LV) : Prop where
 nodup : (zam L).Nodup
 keys : ∀ s, s ∈ zam L ↔ s ∈ zax c nums \/ s = zbx c x \/ ∃ j : Nat, j < k /\ s = zar c (j : Int) x
 vals : ∀ p ∈ L, p.2 = heldV c (nums ++ [x]) p.1
theorem Mid.step {x : Nm} {k : Nat} (h : Mid c nums x k L) : Mid c nums x (k + 1) (zdc c x k L) := by
 unfold zdc
 by_cases hk : zar c (k : Int) x ∈ zam L
 ·rw [if_pos hk]
  refine ⟨h.nodup, fun s => ?_, h.vals⟩
  rw [h.keys]
  constructor
  ·rintro (a | a | ⟨j, hj, a⟩)
   ·exact .inl a
   ·exact .inr (.inl a)
   ·exact .inr (.inr ⟨j, by omega, a⟩)
  ·rintro (a | a | ⟨j, hj, a⟩)
   ·exact .inl a
   ·exact .inr (.inl a)
   ·by_cases e : j = k
    ·subst e; subst a; exact (h.keys _).1 hk
    ·exact .inr (.inr ⟨j, by omega, a⟩)
 ·rw [if_neg hk]
  refine ⟨nodup_putL h.nodup, fun s => ?_, fun p hp => ?_⟩
  ·rw [zcw, h.keys]
   constructor
   ·rintro ((a | a | ⟨j, hj, a⟩) | a)
    ·exact .inl a
    ·exact .inr (.inl a)
    ·exact .inr (.inr ⟨j, by omega, a⟩)
    ·exact .inr (.inr ⟨k, by omega, a⟩)
   ·rintro (a | a | ⟨j, hj, a⟩)
    ·exact .inl (.inl a)
    ·exact .inl (.inr (.inl a))
    ·by_cases e : j = k
     ·subst e; exact .inr a
     ·exact .inl (.inr (.inr ⟨j, by omega, a⟩))
  ·rcases zde hp with rfl | ⟨hp, _⟩
   ·show (⟨2, zds⟩ : SV) = heldV c (nums ++ [x]) (zar c (k : Int) x)
    unfold heldV
    rw [if_neg (show ¬ (zar c (k : Int) x).t = -1 by simp only [zar]; omega)]
   ·exact h.vals p hp
theorem Mid.to {x : Nm} (h : Mid c nums x 0 L) : ∀ k, Mid c nums x k (addTo c x k L)
 | 0 => h
 | k + 1 => (Mid.to h k).step
theorem keys_raw_tier (x : Nm) (j : Nat) (k : Nat) : zar c (j : Int) x ∈ zam (addTo c x k (zct c L x)) ↔ zar c (j : Int) x ∈ zam L \/ j < k := by
 induction k with
 | zero =>
  show _ ∈ zam (putL _ _ _) ↔ _
  rw [zcw]
  constructor
  ·rintro (h | h)
   ·exact .inl h
   ·exact absurd h (seg_ne (by omega))
  ·rintro (h | h)
   ·exact .inl h
   ·omega
 | succ k ih =>
  show _ ∈ zam (zdc c x k _) ↔ _
  unfold zdc
  by_cases hk : zar c (k : Int) x ∈ zam (addTo c x k (zct c L x))
  ·rw [if_pos hk, ih]
   constructor
   ·rintro (h | h)
    ·exact .inl h
    ·exact .inr (by omega)
   ·rintro (h | h)
    ·exact .inl h
    ·by_cases e : j = k
     ·subst e; exact ih.1 hk
     ·exact .inr (by omega)
  ·rw [if_neg hk, zcw, ih]
   constructor
   ·rintro ((h | h) | h)
    ·exact .inl h
    ·exact .inr (by omega)
    ·right
     have : (j : Int) = (k : Int) := by injection h
     omega
   ·rintro (h | h)
    ·exact .inl (.inl h)
    ·by_cases e : j = k
     ·subst e; exact .inr rfl
     ·exact .inl (.inr (by omega))
theorem used_to (x : Nm) (k : Nat) : zby (addTo c x k (zct c L x)) = zby (zct c L x) + 2 * zeq c L x k := by
 induction k with
 | zero => simp [addTo, zeq]
 | succ k ih =>
  show zby (zdc c x k _) = _
  unfold zdc
  have hk := keys_raw_tier (c := c) (L := L) x k k
  simp only [Nat.lt_irrefl, or_false] at hk
  by_cases h : zar c (k : Int) x ∈ zam L
  ·rw [if_pos (hk.2 h), ih]; simp [zeq, h]
  ·rw [if_neg (fun a => h (hk.1 a))]
   unfold zby at ih ⊢
   rw [sum_put_new zfn (fun a => h (hk.1 a)), ih]; simp [zeq, h, zfn]; omega
end
end Go.Proofs.YtpbimdkclnekeaaGreat

namespace Go.Proofs.YtpbimdkclnekeaaGreat
open Value (int)
open IntKind (i64)
open Go.RowKit
set_option linter.unusedVariables false
theorem Tryz.infoTierR : (Tryz.prog.info? 66).map (fun i => (i.zero, i.size, i.bytes)) = some (some (.agg #[int i64 0, int i64 0, int i64 0]), 3, 24) := by kernel_rfl
def madeTiers (n : Nat) : Array Value := madeCells #[int i64 0, int i64 0, int i64 0] (n * 3)
theorem size_madeTiers (n : Nat) : (madeTiers n).size = n * 3 := size_madeCells _ _
theorem make_tiers_n (n : Nat) (hb : n <= 4) (wx : World) :
  (Instr.makeSlice 25 (int i64 (n : Int)) (int i64 (n : Int))).run Tryz.prog wx = .ok (.slice (some ⟨wx.heap.size, 0, none⟩) n n) (wx.alloc (.cells (madeTiers n) 66)) := by
 have hi := Tryz.infoTierR
 cases hq : Tryz.prog.info? 66 with
 | none => simp [hq] at hi
 | some i =>
  simp only [hq, Option.map_some, Option.some.injEq, Prod.mk.injEq] at hi
  obtain ⟨hz, hs, hbt⟩ := hi
  have hr := run_make (P := Tryz.prog) wx 25 66 i _ Tryz.underlying25 hq hz .i64 .i64 (n : Int) (n : Int) (by omega) (by omega) (by rw [hbt]; omega) (by omega)
  rw [hr, hs]
  rfl
theorem tsCells {w : World} {a : Option Addr} {n : Nat} {F W K : Nat -> Int} (h : TS w a n F W K) : 0 < (row3 n F W K).length -> ∃ ad, a = some ad /\ ∀ j v, (row3 n F W K)[j]? = some v -> w.cell? (ad.add j) = some v := by
 intro h0
 rw [zbu] at h0
 obtain ⟨b, off, rfl, _, hc⟩ := h (by omega)
 refine ⟨_, rfl, fun j v hv => ?_⟩
 have hj : j < n * 3 := by
  have := (List.getElem?_eq_some_iff.1 hv).1; rwa [zbu] at this
 rw [row3_get n F W K j hj] at hv
 cases hv
 have hadd : (⟨b, off, none⟩ : Addr).add j = ⟨b, off + j, none⟩ := by unfold Addr.add; split <;> simp_all
 rw [hadd]
 obtain ⟨c0, c1, c2⟩ := hc (j / 3) (by omega)
 rcases (show j % 3 = 0 \/ j % 3 = 1 \/ j % 3 = 2 by omega) with e | e | e
 ·have ej : j = j / 3 * 3 := by omega
  rw [ej, cell3_0]; exact c0
 ·have ej : j = j / 3 * 3 + 1 := by omega
  rw [ej, cell3_1]; exact c1
 ·have ej : j = j / 3 * 3 + 2 := by omega
  rw [ej, cell3_2]; exact c2
set_option maxHeartbeats 4000000 in
theorem rnew_any (c : Cf) (hc : c.ok) (a : Option Addr) (cap : Nat) (ep : Int) (w : World) (h : TS w a c.n c.F c.W c.K) :
  Calls Tryz.prog 52 #[.agg #[int i64 c.s, int i64 c.le, int i64 c.la, int i64 c.wi, int i64 c.ke, int i64 c.qu, .slice a c.n cap], int i64 ep] w fun e w' => ∃ p tv, e = .returned (.pointer (some ⟨p, 0, none⟩)) /\ zbk w.heap.size w' p ⟨c, 0, [], [], [], [], ep, 0⟩ tv (.slice none 0 0) (.slice none 0 0) (.slice none 0 0) (.slice none 0 0) /\ Below w.heap.size w w' := by
 have hmk := make_tiers_n c.n hc.n4
 go_enter Tryz.func52, Tryz.ntmps52
 go_wp2_with fail
 obtain ⟨y0, y1, y2, hbw, yz⟩ := box3 w (.cells #[int i64 c.s, int i64 c.le, int i64 c.la, int i64 c.wi, int i64 c.ke, int i64 c.qu, .slice a c.n cap] 27) (.cells #[int i64 c.s, int i64 c.le, int i64 c.la, int i64 c.wi, int i64 c.ke, int i64 c.qu, .slice (some ⟨w.heap.size + 1 + 1, 0, none⟩) c.n c.n, int i64 0, .slice none 0 0, .slice none 0 0, .slice none 0 0, .slice none 0 0, int i64 ep, int i64 0] 190) (.cells (madeTiers c.n) 66)
 generalize (((w.alloc (.cells #[int i64 c.s, int i64 c.le, int i64 c.la, int i64 c.wi, int i64 c.ke, int i64 c.qu, .slice a c.n cap] 27)).alloc (.cells #[int i64 c.s, int i64 c.le, int i64 c.la, int i64 c.wi, int i64 c.ke, int i64 c.qu, .slice (some ⟨w.heap.size + 1 + 1, 0, none⟩) c.n c.n, int i64 0, .slice none 0 0, .slice none 0 0, .slice none 0 0, .slice none 0 0, int i64 ep, int i64 0] 190)).alloc (.cells (madeTiers c.n) 66)) = X at *
 have hts := h.below hbw
 obtain ⟨w4, hcp, HR, HB4⟩ : ∃ w4, (Builtin.copy_ #[25, 25] 3 #[.slice (some ⟨w.heap.size + 1 + 1, 0, none⟩) c.n c.n, .slice a c.n cap]).run Tryz.prog X.drew = .ok (int i64 c.n) w4 /\
   Hid (w4.heap[w.heap.size + 1 + 1]? = some (.cells (row3 c.n c.F c.W c.K).toArray 66 (0, 0))) /\ Hid (Below (w.heap.size + 2) X w4) := by
  have hg : X.drew.heap[w.heap.size + 1 + 1]? = some (.cells (madeTiers c.n) 66 (0, 0)) := y2
  have hts' : TS X.drew a c.n c.F c.W c.K := hts
  have hr := run_copy_wide (P := Tryz.prog) X.drew 25 25 3 66 3 (w.heap.size + 1 + 1) c.n c.n a c.n cap (madeTiers c.n) 66 (row3 c.n c.F c.W c.K) Tryz.underlying25 (by kernel_rfl) hg
   (by rw [zbu]; simp) (tsCells hts') (by rw [zbu, size_madeTiers]; omega) (row3_one c.n c.F c.W c.K)
  have hm : Nat.min c.n c.n = c.n := by simp
  have hd : (row3 c.n c.F c.W c.K ++ (madeTiers c.n).toList.drop (row3 c.n c.F c.W c.K).length).toArray = (row3 c.n c.F c.W c.K).toArray := by
   rw [List.drop_eq_nil_of_le (by rw [zbu]; simp [size_madeTiers]), List.append_nil]
  rw [hm, hd] at hr
  exact ⟨_, hr, setRow_heap _ _ _ _ _ _ hg, below_setRow ((Below.refl _ _).drew) (Nat.le_refl _) _⟩
 have p6 : X.cell? ⟨w.heap.size + 1, 6, none⟩ = some (.slice (some ⟨w.heap.size + 1 + 1, 0, none⟩) c.n c.n) := by rw [zac y1]; rfl
 have q6 : X.cell? ⟨w.heap.size, 6, none⟩ = some (.slice a c.n cap) := by rw [zac y0]; rfl
 have Y1 := zab y1
 have YZ := zab yz
 have HBW := zab hbw
 clear y0 y1 y2 yz hbw hts hmk h
 go_region
 go_wp2_with fail
 go_ret
 have hh := ((ud HB4).block (w.heap.size + 1) (by omega)).trans (ud Y1)
 refine ⟨_, _, rfl, ⟨hh, by omega, ⟨zbu _ _ _ _, .inr ⟨_, _, _, rfl, by omega, ud HR, ?_⟩⟩, World.ownsRow_nil _ _ _ _, World.ownsRow_nil _ _ _ _, World.ownsRow_nil _ _ _ _, World.ownsRow_nil _ _ _ _⟩, (ud HBW).trans ((ud HB4).mono (by omega))⟩
 refine ⟨Nat.le_refl _, by have := hc.n4; simp only [maxLen]; omega, by simp [zbu], ?_⟩
 show List.take (c.n * 3) (row3 c.n c.F c.W c.K) = row3 c.n c.F c.W c.K
 exact List.take_of_length_le (by rw [zbu]; omega)
end Go.Proofs.YtpbimdkclnekeaaGreat

namespace Go.Proofs.YtpbimdkclnekeaaGreat
open Value (int)
open IntKind (i64)
open Go.RowKit Go.Maps
open Go.ChangeMaps (setBlock modify_eq_set)
set_option linter.unusedVariables false
def svVal (v : SV) : Value := .agg #[int i64 v.st, int i64 v.cl.cnt, int i64 v.cl.sum, .int .i32 v.cl.mn, .int .i32 v.cl.mx]
def i64B (n : Int) : Prop := -9223372036854775808 <= n /\ n <= 9223372036854775807
def Sg.wf (s : Sg) : Prop := i64B s.t /\ i64B s.ser /\ i64B s.win
theorem Tryz.laidOut : laidOutB Tryz.prog = true := by kernel_rfl
theorem keyRow : (137 : TypeId) < Tryz.prog.types.size := of_decide_eq_true (by kernel_rfl)
theorem keyLaw : Keyed Tryz.prog 137 := Keyed.of_law (deep_law_laid Tryz.laidOut (m := 2) (Nat.le_of_ble_eq_true rfl) keyRow (by kernel_rfl) (by kernel_rfl))
theorem key_size : ∃ m, Tryz.prog.types.size = m + 1 := by
 have h : 0 < Tryz.prog.types.size := of_decide_eq_true (by kernel_rfl)
 exact ⟨Tryz.prog.types.size - 1, by omega⟩
theorem key_cells : Tryz.prog.cellsOf 137 = 3 := by kernel_rfl
theorem int_cells : Tryz.prog.cellsOf 3 = 1 := by kernel_rfl
theorem key_type : Tryz.prog.keyType 137 = true := by kernel_rfl
theorem sg_inj {s k : Sg} (h : sgVal s = sgVal k) : s = k := by
 unfold sgVal at h
 injection h with h
 injection h with h
 injection h with h1 h
 injection h with h2 h
 injection h with h3 h
 injection h1 with _ h1
 injection h2 with _ h2
 injection h3 with _ h3
 cases s; cases k; simp at *; exact ⟨h1, h2, h3⟩
theorem wf64 {n : Int} (h : i64B n) : (Lit.int .i64 n).wf = true := WalkArith.wf_i64 (by unfold i64B at h; omega)
theorem sg_key {s : Sg} (h : s.wf) : ∃ kl, keyOf Tryz.prog 137 (sgVal s) = some kl := by
 obtain ⟨m, hm⟩ := key_size
 obtain ⟨h1, h2, h3⟩ := h
 have hf : (sgVal s).formed Tryz.prog 137 = true := by
  simp [Value.formed, sgVal, Tryz.underlying137, key_cells]
 unfold keyOf
 simp only [Tryz.underlying137, key_type, hf, Bool.and_self, if_true]
 have : ∃ ls, Tryz.prog.keyLits (Tryz.prog.types.size + 1) 137 (sgVal s).cells.toList = some ls := by
  rw [hm]
  simp [Program.keyLits, Tryz.underlying137, Tryz.underlying3, sgVal, Value.cells, key_cells, int_cells, wf64 h1, wf64 h2, wf64 h3]
 obtain ⟨ls, hls⟩ := this
 exact ⟨_, by rw [hls]; rfl⟩
structure Ents (es : Array MapEntry) (clock : Nat) (L : LV) : Prop where
 kv : es.toList.map (fun e => (e.key, e.val)) = L.map (fun p => (sgVal p.1, svVal p.2))
 born : ∀ e ∈ es.toList, e.born < clock
 once : (es.toList.map (·.born)).Nodup
 wf : ∀ p ∈ L, p.1.wf
 nodup : (zam L).Nodup
 size : es.size <= maxLen
def zeu (w : World) (b : Nat) (L : LV) : Prop := ∃ es clock, w.heap[b]? = some (.map es clock) /\ Ents es clock L
theorem zeu.lt {w : World} {b : Nat} {L : LV} (h : zeu w b L) : b < w.heap.size := by
 obtain ⟨es, clock, hb, _⟩ := h; exact zaa hb
theorem zeu.kept {f : Nat -> Prop} {w w' : World} {b : Nat} {L : LV} (h : zeu w b L) (hk : zan f w w') (hn : ¬ f b) : zeu w' b L := by
 obtain ⟨es, clock, hb, he⟩ := h; exact ⟨es, clock, hk.heap hb hn, he⟩
theorem zeu.later {w w' : World} {b : Nat} {L : LV} (h : zeu w b L) (hb : Below w.heap.size w w') : zeu w' b L :=
 h.kept (f := fun _ => False) (zan.of_below hb) (fun h => h)
theorem zeu.wf {w : World} {b : Nat} {L : LV} (h : zeu w b L) : ∀ p ∈ L, p.1.wf := by obtain ⟨es, clock, hb, he⟩ := h; exact he.wf
theorem zeu.made (w : World) : zeu (w.alloc (.map #[] 0)) w.heap.size [] := ⟨#[], 0, zap _ _, ⟨rfl, by simp, by simp, by simp, by simp [zam], by simp⟩⟩
theorem Ents.keys {es : Array MapEntry} {clock : Nat} {L : LV} (h : Ents es clock L) : ∀ e ∈ es.toList, ∃ l, keyOf Tryz.prog 137 e.key = some l := fun e he => by
 have hm : (e.key, e.val) ∈ L.map (fun p => (sgVal p.1, svVal p.2)) := h.kv ▸ List.mem_map.2 ⟨e, he, rfl⟩
 obtain ⟨p, hp, e1⟩ := List.mem_map.1 hm
 injection e1 with e1 e2
 rw [<- e1]; exact sg_key (h.wf p hp)
theorem Ents.at {es : Array MapEntry} {clock : Nat} {L : LV} (h : Ents es clock L) {j : Nat} {e : MapEntry} (hj : es.toList[j]? = some e) : ∃ p, L[j]? = some p /\ e.key = sgVal p.1 /\ e.val = svVal p.2 := by
 have h1 : (es.toList.map (fun e => (e.key, e.val)))[j]? = some (e.key, e.val) := by simp [hj]
 rw [h.kv, List.getElem?_map] at h1
 cases hp : L[j]? with
 | none => simp [hp] at h1
 | some p =>
  rw [hp] at h1
  simp at h1
  exact ⟨p, rfl, h1.1.symm, h1.2.symm⟩
theorem key_mem {L : LV} {s : Sg} {j : Nat} {p : Sg × SV} (hp : L[j]? = some p) (e : p.1 = s) : s ∈ zam L := by
 unfold zam; exact List.mem_map.2 ⟨p, List.mem_of_getElem? hp, e⟩
theorem getL_at {L : LV} (hn : (zam L).Nodup) {j : Nat} {p : Sg × SV} (hp : L[j]? = some p) : getL L p.1 = some p.2 := by
 obtain ⟨v, hv, hm⟩ := getL_of (key_mem hp rfl)
 rw [hv]
 have hpm := List.mem_of_getElem? hp
 have : (p.1, v) = p := by
  have hpw : L.Pairwise (fun a b => a.1 ≠ b.1) := by unfold zam at hn; exact List.pairwise_map.1 hn
  by_cases e : (p.1, v) = p
  ·exact e
  ·obtain ⟨i, hi, ei⟩ := List.getElem_of_mem hm
   obtain ⟨i2, hi2, ei2⟩ := List.getElem_of_mem hpm
   rcases Nat.lt_trichotomy i i2 with h | h | h
   ·have := List.pairwise_iff_getElem.1 hpw i i2 hi hi2 h; rw [ei, ei2] at this; exact absurd rfl this
   ·subst h; rw [ei] at ei2; exact ei2
   ·have := List.pairwise_iff_getElem.1 hpw i2 i hi2 hi h; rw [ei, ei2] at this; exact absurd rfl this
 rw [<- this]
def lookV (c : Bool) (z : Value) (L : LV) (s : Sg) : Value := match getL L s with
 | none => if c then .tuple #[z, .bool false] else z
 | some v => if c then .tuple #[svVal v, .bool true] else svVal v
theorem run_look (c : Bool) {w : World} {b : Nat} {L : LV} (h : zeu w b L) {s : Sg} (hs : s.wf) :
  (Instr.lookup 135 (.map (some b)) (sgVal s) c).run Tryz.prog w = .ok (lookV c (svVal ⟨0, zds⟩) L s) w := by
 obtain ⟨es, clock, hb, he⟩ := h
 obtain ⟨kl, hkl⟩ := sg_key hs
 have hz : (zeroValue 131).run Tryz.prog w = .ok (svVal ⟨0, zds⟩) w := by kernel_rfl
 rcases keyLaw.find w hkl es.toList he.keys with ⟨h1, h2⟩ | ⟨j, e0, h1, h2, h3⟩
 ·have hg : getL L s = none := zfg.2 (fun hm => by
   obtain ⟨p, hp, e⟩ := List.mem_map.1 (show s ∈ L.map (·.1) from hm)
   have hm2 : (sgVal p.1, svVal p.2) ∈ es.toList.map (fun e => (e.key, e.val)) := he.kv ▸ List.mem_map.2 ⟨p, hp, rfl⟩
   obtain ⟨x, hx, ex⟩ := List.mem_map.1 hm2
   injection ex with e1 e2
   exact h2 x hx (by rw [e1, e]))
  simp [Instr.lookup, run_underlying Tryz.underlying135, MapKept.run_getObj_map hb, keyLaw.check w _ hkl, h1, hz, Result.andThen, lookV, hg]
 ·obtain ⟨p, hp, hk, hv⟩ := he.at h2
  have hps : p.1 = s := sg_inj (hk.symm.trans h3)
  have hg : getL L s = some p.2 := by rw [<- hps]; exact getL_at he.nodup hp
  simp [Instr.lookup, run_underlying Tryz.underlying135, MapKept.run_getObj_map hb, keyLaw.check w _ hkl, h1, Result.andThen, lookV, hg, hv]
theorem size_LV {es : Array MapEntry} {clock : Nat} {L : LV} (h : Ents es clock L) : es.size = L.length := by
 have := congrArg List.length h.kv; simpa using this
theorem run_store {w : World} {b : Nat} {L : LV} (h : zeu w b L) (hroom : L.length < maxLen) {s : Sg} (hs : s.wf) (v : SV) :
  ∃ o, (Instr.mapUpdate 135 (.map (some b)) (sgVal s) (svVal v)).run Tryz.prog w = .ok () (setBlock w b o) /\ zeu (setBlock w b o) b (putL L s v) /\ zan (fun k => k = b) w (setBlock w b o) /\ o.isCells = false := by
 have hbl := h.lt
 have kp : ∀ o, zan (fun k => k = b) w (setBlock w b o) := fun o => ⟨rfl, rfl, rfl, by simp [setBlock], fun k hk hne => by
  simp only [setBlock]; rw [Array.getElem?_setIfInBounds_ne (fun e => hne e.symm)]⟩
 have hat : ∀ o, (setBlock w b o).heap[b]? = some o := fun o => by simp [setBlock, hbl]
 obtain ⟨es, clock, hb, he⟩ := h
 obtain ⟨kl, hkl⟩ := sg_key hs
 rcases keyLaw.find w hkl es.toList he.keys with ⟨h1, h2⟩ | ⟨j, e0, h1, h2, h3⟩
 ·have hg : s ∉ zam L := (fun hm => by
   obtain ⟨p, hp, e⟩ := List.mem_map.1 (show s ∈ L.map (·.1) from hm)
   have hm2 : (sgVal p.1, svVal p.2) ∈ es.toList.map (fun e => (e.key, e.val)) := he.kv ▸ List.mem_map.2 ⟨p, hp, rfl⟩
   obtain ⟨x, hx, ex⟩ := List.mem_map.1 hm2
   injection ex with e1 e2
   exact h2 x hx (by rw [e1, e]))
  refine ⟨.map (es.push ⟨sgVal s, svVal v, clock⟩) (clock + 1), ?_, ⟨_, _, hat _, ?_⟩, kp _, rfl⟩
  ·simp [Instr.mapUpdate, run_underlying Tryz.underlying135, MapKept.run_getObj_map hb, keyLaw.check w false hkl, h1, MapKept.run_setObj_map _ hb, Result.andThen, setBlock]
  ·have hp : putL L s v = L ++ [(s, v)] := by unfold putL; rw [if_neg hg]
   refine ⟨by rw [hp]; simp [he.kv], ?_, ?_, ?_, nodup_putL he.nodup, by have := size_LV he; simp; omega⟩
   ·intro x hx
    simp at hx
    rcases hx with hx | rfl
    ·have := he.born x (by simpa using hx); omega
    ·simp
   ·rw [Array.toList_push, List.map_append, List.nodup_append]
    refine ⟨he.once, by simp, fun a ha c hc => ?_⟩
    simp at hc; subst hc
    obtain ⟨x, hx, rfl⟩ := List.mem_map.1 ha
    have := he.born x hx; omega
   ·rw [hp]; intro p hp
    rcases List.mem_append.1 hp with hp | hp
    ·exact he.wf p hp
    ·simp at hp; subst hp; exact hs
 ·obtain ⟨p, hp, hk, hv⟩ := he.at h2
  have hps : p.1 = s := sg_inj (hk.symm.trans h3)
  have hj : es[j]? = some e0 := by simpa using h2
  have hin : s ∈ zam L := key_mem hp hps
  have hlist : (es.modify j (fun e' => { e' with key := sgVal s, val := svVal v })).toList = es.toList.set j { e0 with key := sgVal s, val := svVal v } := by rw [Array.toList_modify, modify_eq_set _ _ _ _ h2]
  refine ⟨.map (es.modify j (fun e' => { e' with key := sgVal s, val := svVal v })) clock, ?_, ⟨_, _, hat _, ?_⟩, kp _, rfl⟩
  ·simp [Instr.mapUpdate, run_underlying Tryz.underlying135, MapKept.run_getObj_map hb, keyLaw.check w false hkl, h1, hj, h3, keyLaw.stays w hkl, MapKept.run_setObj_map _ hb, Result.andThen, setBlock]
  ·have hput : putL L s v = L.set j (s, v) := by
    unfold putL; rw [if_pos hin]
    apply List.ext_getElem?
    intro i
    rw [List.getElem?_map, List.getElem?_set]
    by_cases e : j = i
    ·subst e
     have hjl : j < L.length := (List.getElem?_eq_some_iff.1 hp).1
     rw [hp]; simp only [Option.map_some, hps, if_true, hjl]
    ·rw [if_neg e]
     cases hi : L[i]? with
     | none => simp
     | some q =>
      have hne : q.1 ≠ s := fun eq => by
       have hpw : L.Pairwise (fun a b => a.1 ≠ b.1) := List.pairwise_map.1 he.nodup
       obtain ⟨hil, ei⟩ := List.getElem?_eq_some_iff.1 hi
       obtain ⟨hjl, ej⟩ := List.getElem?_eq_some_iff.1 hp
       rcases Nat.lt_or_gt_of_ne e with h | h
       ·have := List.pairwise_iff_getElem.1 hpw j i hjl hil h; rw [ei, ej] at this; exact this (hps.trans eq.symm)
       ·have := List.pairwise_iff_getElem.1 hpw i j hil hjl h; rw [ei, ej] at this; exact this (eq.trans hps.symm)
      simp [hne]
   refine ⟨?_, ?_, ?_, ?_, nodup_putL he.nodup, by simpa using he.size⟩
   ·rw [hlist, hput, List.map_set, List.map_set, he.kv]
   ·intro x hx
    rw [hlist] at hx
    rcases List.mem_or_eq_of_mem_set hx with hx | rfl
    ·exact he.born x hx
    ·exact he.born e0 (List.mem_of_getElem? h2)
   ·rw [hlist, List.map_set]
    have : (es.toList.map (·.born)).set j e0.born = es.toList.map (·.born) := by
     apply List.ext_getElem?
     intro i
     rw [List.getElem?_set]
     by_cases e : j = i
     ·subst e
      have hjl : j < es.toList.length := (List.getElem?_eq_some_iff.1 h2).1
      simp only [List.length_map, hjl, if_true, List.getElem?_map, h2, Option.map_some]
     ·rw [if_neg e]
    show ((es.toList.map (·.born)).set j e0.born).Nodup
    rw [this]; exact he.once
   ·intro q hq
    rcases zde hq with rfl | ⟨hq, _⟩
    ·exact hs
    ·exact he.wf q hq
end Go.Proofs.YtpbimdkclnekeaaGreat
