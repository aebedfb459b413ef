import Derived.Test.YtgadceofpbfleaaGreatQRef9

/- Walks: settle. -/
namespace Go.Proofs.YtgadceofpbfleaaGreat
open Go.RowKit
set_option linter.unusedVariables false

def newTk (m : RM) (kind : Int) (s : Sg) : Tk := ⟨kind, s, m.now, 0, 0, 0, 0, -1, 0⟩
def pickTk (kind : Int) (s : Sg) (t x : Tk) : Tk := if x.kind = kind ∧ x.s = s then x else t
def taskFor (m : RM) (kind : Int) (s : Sg) : Tk := m.tasks.foldl (pickTk kind s) (newTk m kind s)
def readyK (m : RM) (kind : Int) (s : Sg) (l : List Sg) : Bool := if kind = 1 then readyB1 m s l else readyB2 m s l
def stepK (m : RM) (l : List Sg) (kind : Int) (out : List Tk) (s : Sg) : List Tk := if readyK m kind s l then insBy lessB (taskFor m kind s) out else out
def settleTo (m : RM) (l : List Sg) (i : Nat) : List Tk := (l.take i).foldl (fun out s => stepK m l 2 (stepK m l 1 out s) s) []
def midOut (m : RM) (l : List Sg) (A : List Tk) (s : Sg) : Nat → List Tk
  | 0 => A
  | q + 1 => stepK m l ((q : Int) + 1) (midOut m l A s q) s
def RM.settled (m : RM) : RM := { m with tasks := settleTo m (segsOf m.c m.nums) (segsOf m.c m.nums).length }

theorem settle_succ (m : RM) (l : List Sg) (i : Nat) (s : Sg) (h : l[i]? = some s) : settleTo m l (i + 1) = midOut m l (settleTo m l i) s 2 := by
  obtain ⟨hl, hx⟩ := List.getElem?_eq_some_iff.1 h
  unfold settleTo
  rw [List.take_succ_eq_append_getElem hl, hx, List.foldl_append]; rfl
theorem insBy_len {α : Type} (lt : α → α → Bool) (x : α) : ∀ l : List α, (insBy lt x l).length = l.length + 1
  | [] => rfl
  | y :: r => by rw [insBy]; split <;> simp [insBy_len lt x r]
theorem stepK_len (m : RM) (l : List Sg) (kind : Int) (out : List Tk) (s : Sg) : (stepK m l kind out s).length ≤ out.length + 1 := by
  unfold stepK; split
  · rw [insBy_len]; omega
  · omega
theorem mid_len (m : RM) (l : List Sg) (A : List Tk) (s : Sg) : ∀ q, (midOut m l A s q).length ≤ A.length + q
  | 0 => Nat.le_refl _
  | q + 1 => by have := stepK_len m l ((q : Int) + 1) (midOut m l A s q) s; have h2 := mid_len m l A s q; rw [midOut]; omega
theorem settle_len (m : RM) (l : List Sg) : ∀ i, i ≤ l.length → (settleTo m l i).length ≤ 2 * i
  | 0, _ => by simp [settleTo]
  | i + 1, h => by
    obtain ⟨s, hs⟩ := rget_of_lt (show i < l.length by omega)
    have := settle_len m l i (by omega)
    have h2 := mid_len m l (settleTo m l i) s 2
    rw [settle_succ m l i s hs]; omega
theorem pick_take (m : RM) (kind : Int) (s : Sg) (k : Nat) (x : Tk) (h : m.tasks[k]? = some x) : (m.tasks.take (k + 1)).foldl (pickTk kind s) (newTk m kind s) = pickTk kind s ((m.tasks.take k).foldl (pickTk kind s) (newTk m kind s)) x := by
  rw [tk_take h, List.foldl_append]; rfl
theorem pick_yes {kind : Int} {s : Sg} {t x : Tk} (h : x.kind = kind) (h1 : x.s = s) : pickTk kind s t x = x := by simp [pickTk, h, h1]
theorem pick_no1 {kind : Int} {s : Sg} {t x : Tk} (h : ¬ x.kind = kind) : pickTk kind s t x = t := by simp [pickTk, h]
theorem pick_no2 {kind : Int} {s : Sg} {t x : Tk} (h : ¬ x.s = s) : pickTk kind s t x = t := by simp [pickTk, h]
theorem segs_ok {c : Cf} {nums : List Nm} (hc : c.ok) (hno : ∀ x ∈ nums, x.ok) : ∀ s ∈ segsOf c nums, sgOk c s := fun s hs => by
  obtain ⟨h1, h2, x, hx, he⟩ := mem_segsOf.1 hs
  obtain ⟨o1, o2, o3, o4, o5, o6⟩ := hno x hx
  obtain ⟨w1, w2⟩ := hc.width h1 h2
  have e : s.win = x.tm / c.width s.t := by rw [he]; rfl
  refine ⟨h1, h2, ?_, ?_⟩
  · rw [e]; exact Int.ediv_nonneg o3 (by omega)
  · rw [e]; have := Int.ediv_le_self (a := x.tm) (c.width s.t) o3; omega

theorem row_apart {w : World} {p : Nat} {cs : Array Value} {T e : TypeId} {fr : Nat × Nat} {B size n : Nat} {v : Value} {xs : List Value} (h : w.heap[p]? = some (.cells cs T fr)) (hr : w.ownsRow B e size v n xs) (hT : T ≠ e) : ∀ k, v.ownBlock = some k → ¬ k = p := fun k hk hkp => by
  subst hkp
  obtain ⟨cur, hc⟩ := owns_type hr hk
  rw [h] at hc
  injection hc with hc; injection hc with _ hc; exact hT hc
theorem RefAt.setTasks {B : Nat} {w : World} {p : Nat} {m : RM} {tv nv pv gv kv : Value} {ts : List Tk} {z : Value} (h : RefAt B w p m tv nv pv gv kv) (hz : w.ownsRow B 133 11 z ts.length (ts.flatMap tkV)) : RefAt B (w.setCell ⟨p, 11, none⟩ z) p { m with tasks := ts } tv nv pv gv z := by
  have hk : Kept (fun k => k = p) w (w.setCell ⟨p, 11, none⟩ z) := kept_set (Kept.refl _ _) rfl
  exact ⟨rset (i := 11) h.head z, h.base, owns_kept h.trow hk (row_apart h.head h.trow (by decide)), owns_kept h.nrow hk (row_apart h.head h.nrow (by decide)), owns_kept h.prow hk (row_apart h.head h.prow (by decide)), owns_kept h.grow hk (row_apart h.head h.grow (by decide)), owns_kept hz hk (row_apart h.head hz (by decide))⟩

theorem set11 {w : World} {g : Nat} {a : Tk} (h : w.heap[g]? = some (tkObj a)) (x : Tk) : (((((((((((w.setCell ⟨g, 0, none⟩ (.int .i64 x.kind)).setCell ⟨g, 1, none⟩ (.int .i64 x.s.t)).setCell ⟨g, 2, none⟩ (.int .i64 x.s.ser)).setCell ⟨g, 3, none⟩ (.int .i64 x.s.win)).setCell ⟨g, 4, none⟩ (.int .i64 x.since)).setCell ⟨g, 5, none⟩ (.int .i64 x.tries)).setCell ⟨g, 6, none⟩ (.int .i64 x.rest)).setCell ⟨g, 7, none⟩ (.int .i64 x.ep)).setCell ⟨g, 8, none⟩ (.int .i64 x.num)).setCell ⟨g, 9, none⟩ (.int .i64 x.slot)).setCell ⟨g, 10, none⟩ (.int .i64 x.till)).heap[g]? = some (tkObj x) := by
  have h0 : (w.setCell ⟨g, 0, none⟩ (.int .i64 x.kind)).heap[g]? = some (.cells #[Value.int .i64 x.kind, Value.int .i64 a.s.t, Value.int .i64 a.s.ser, Value.int .i64 a.s.win, Value.int .i64 a.since, Value.int .i64 a.tries, Value.int .i64 a.rest, Value.int .i64 a.ep, Value.int .i64 a.num, Value.int .i64 a.slot, Value.int .i64 a.till] 133 (0, 0)) := rset (i := 0) h (.int .i64 x.kind)
  have h1 : ((w.setCell ⟨g, 0, none⟩ (.int .i64 x.kind)).setCell ⟨g, 1, none⟩ (.int .i64 x.s.t)).heap[g]? = some (.cells #[Value.int .i64 x.kind, Value.int .i64 x.s.t, Value.int .i64 a.s.ser, Value.int .i64 a.s.win, Value.int .i64 a.since, Value.int .i64 a.tries, Value.int .i64 a.rest, Value.int .i64 a.ep, Value.int .i64 a.num, Value.int .i64 a.slot, Value.int .i64 a.till] 133 (0, 0)) := rset (i := 1) h0 (.int .i64 x.s.t)
  have h2 : (((w.setCell ⟨g, 0, none⟩ (.int .i64 x.kind)).setCell ⟨g, 1, none⟩ (.int .i64 x.s.t)).setCell ⟨g, 2, none⟩ (.int .i64 x.s.ser)).heap[g]? = some (.cells #[Value.int .i64 x.kind, Value.int .i64 x.s.t, Value.int .i64 x.s.ser, Value.int .i64 a.s.win, Value.int .i64 a.since, Value.int .i64 a.tries, Value.int .i64 a.rest, Value.int .i64 a.ep, Value.int .i64 a.num, Value.int .i64 a.slot, Value.int .i64 a.till] 133 (0, 0)) := rset (i := 2) h1 (.int .i64 x.s.ser)
  have h3 : ((((w.setCell ⟨g, 0, none⟩ (.int .i64 x.kind)).setCell ⟨g, 1, none⟩ (.int .i64 x.s.t)).setCell ⟨g, 2, none⟩ (.int .i64 x.s.ser)).setCell ⟨g, 3, none⟩ (.int .i64 x.s.win)).heap[g]? = some (.cells #[Value.int .i64 x.kind, Value.int .i64 x.s.t, Value.int .i64 x.s.ser, Value.int .i64 x.s.win, Value.int .i64 a.since, Value.int .i64 a.tries, Value.int .i64 a.rest, Value.int .i64 a.ep, Value.int .i64 a.num, Value.int .i64 a.slot, Value.int .i64 a.till] 133 (0, 0)) := rset (i := 3) h2 (.int .i64 x.s.win)
  have h4 : (((((w.setCell ⟨g, 0, none⟩ (.int .i64 x.kind)).setCell ⟨g, 1, none⟩ (.int .i64 x.s.t)).setCell ⟨g, 2, none⟩ (.int .i64 x.s.ser)).setCell ⟨g, 3, none⟩ (.int .i64 x.s.win)).setCell ⟨g, 4, none⟩ (.int .i64 x.since)).heap[g]? = some (.cells #[Value.int .i64 x.kind, Value.int .i64 x.s.t, Value.int .i64 x.s.ser, Value.int .i64 x.s.win, Value.int .i64 x.since, Value.int .i64 a.tries, Value.int .i64 a.rest, Value.int .i64 a.ep, Value.int .i64 a.num, Value.int .i64 a.slot, Value.int .i64 a.till] 133 (0, 0)) := rset (i := 4) h3 (.int .i64 x.since)
  have h5 : ((((((w.setCell ⟨g, 0, none⟩ (.int .i64 x.kind)).setCell ⟨g, 1, none⟩ (.int .i64 x.s.t)).setCell ⟨g, 2, none⟩ (.int .i64 x.s.ser)).setCell ⟨g, 3, none⟩ (.int .i64 x.s.win)).setCell ⟨g, 4, none⟩ (.int .i64 x.since)).setCell ⟨g, 5, none⟩ (.int .i64 x.tries)).heap[g]? = some (.cells #[Value.int .i64 x.kind, Value.int .i64 x.s.t, Value.int .i64 x.s.ser, Value.int .i64 x.s.win, Value.int .i64 x.since, Value.int .i64 x.tries, Value.int .i64 a.rest, Value.int .i64 a.ep, Value.int .i64 a.num, Value.int .i64 a.slot, Value.int .i64 a.till] 133 (0, 0)) := rset (i := 5) h4 (.int .i64 x.tries)
  have h6 : (((((((w.setCell ⟨g, 0, none⟩ (.int .i64 x.kind)).setCell ⟨g, 1, none⟩ (.int .i64 x.s.t)).setCell ⟨g, 2, none⟩ (.int .i64 x.s.ser)).setCell ⟨g, 3, none⟩ (.int .i64 x.s.win)).setCell ⟨g, 4, none⟩ (.int .i64 x.since)).setCell ⟨g, 5, none⟩ (.int .i64 x.tries)).setCell ⟨g, 6, none⟩ (.int .i64 x.rest)).heap[g]? = some (.cells #[Value.int .i64 x.kind, Value.int .i64 x.s.t, Value.int .i64 x.s.ser, Value.int .i64 x.s.win, Value.int .i64 x.since, Value.int .i64 x.tries, Value.int .i64 x.rest, Value.int .i64 a.ep, Value.int .i64 a.num, Value.int .i64 a.slot, Value.int .i64 a.till] 133 (0, 0)) := rset (i := 6) h5 (.int .i64 x.rest)
  have h7 : ((((((((w.setCell ⟨g, 0, none⟩ (.int .i64 x.kind)).setCell ⟨g, 1, none⟩ (.int .i64 x.s.t)).setCell ⟨g, 2, none⟩ (.int .i64 x.s.ser)).setCell ⟨g, 3, none⟩ (.int .i64 x.s.win)).setCell ⟨g, 4, none⟩ (.int .i64 x.since)).setCell ⟨g, 5, none⟩ (.int .i64 x.tries)).setCell ⟨g, 6, none⟩ (.int .i64 x.rest)).setCell ⟨g, 7, none⟩ (.int .i64 x.ep)).heap[g]? = some (.cells #[Value.int .i64 x.kind, Value.int .i64 x.s.t, Value.int .i64 x.s.ser, Value.int .i64 x.s.win, Value.int .i64 x.since, Value.int .i64 x.tries, Value.int .i64 x.rest, Value.int .i64 x.ep, Value.int .i64 a.num, Value.int .i64 a.slot, Value.int .i64 a.till] 133 (0, 0)) := rset (i := 7) h6 (.int .i64 x.ep)
  have h8 : (((((((((w.setCell ⟨g, 0, none⟩ (.int .i64 x.kind)).setCell ⟨g, 1, none⟩ (.int .i64 x.s.t)).setCell ⟨g, 2, none⟩ (.int .i64 x.s.ser)).setCell ⟨g, 3, none⟩ (.int .i64 x.s.win)).setCell ⟨g, 4, none⟩ (.int .i64 x.since)).setCell ⟨g, 5, none⟩ (.int .i64 x.tries)).setCell ⟨g, 6, none⟩ (.int .i64 x.rest)).setCell ⟨g, 7, none⟩ (.int .i64 x.ep)).setCell ⟨g, 8, none⟩ (.int .i64 x.num)).heap[g]? = some (.cells #[Value.int .i64 x.kind, Value.int .i64 x.s.t, Value.int .i64 x.s.ser, Value.int .i64 x.s.win, Value.int .i64 x.since, Value.int .i64 x.tries, Value.int .i64 x.rest, Value.int .i64 x.ep, Value.int .i64 x.num, Value.int .i64 a.slot, Value.int .i64 a.till] 133 (0, 0)) := rset (i := 8) h7 (.int .i64 x.num)
  have h9 : ((((((((((w.setCell ⟨g, 0, none⟩ (.int .i64 x.kind)).setCell ⟨g, 1, none⟩ (.int .i64 x.s.t)).setCell ⟨g, 2, none⟩ (.int .i64 x.s.ser)).setCell ⟨g, 3, none⟩ (.int .i64 x.s.win)).setCell ⟨g, 4, none⟩ (.int .i64 x.since)).setCell ⟨g, 5, none⟩ (.int .i64 x.tries)).setCell ⟨g, 6, none⟩ (.int .i64 x.rest)).setCell ⟨g, 7, none⟩ (.int .i64 x.ep)).setCell ⟨g, 8, none⟩ (.int .i64 x.num)).setCell ⟨g, 9, none⟩ (.int .i64 x.slot)).heap[g]? = some (.cells #[Value.int .i64 x.kind, Value.int .i64 x.s.t, Value.int .i64 x.s.ser, Value.int .i64 x.s.win, Value.int .i64 x.since, Value.int .i64 x.tries, Value.int .i64 x.rest, Value.int .i64 x.ep, Value.int .i64 x.num, Value.int .i64 x.slot, Value.int .i64 a.till] 133 (0, 0)) := rset (i := 9) h8 (.int .i64 x.slot)
  have h10 : (((((((((((w.setCell ⟨g, 0, none⟩ (.int .i64 x.kind)).setCell ⟨g, 1, none⟩ (.int .i64 x.s.t)).setCell ⟨g, 2, none⟩ (.int .i64 x.s.ser)).setCell ⟨g, 3, none⟩ (.int .i64 x.s.win)).setCell ⟨g, 4, none⟩ (.int .i64 x.since)).setCell ⟨g, 5, none⟩ (.int .i64 x.tries)).setCell ⟨g, 6, none⟩ (.int .i64 x.rest)).setCell ⟨g, 7, none⟩ (.int .i64 x.ep)).setCell ⟨g, 8, none⟩ (.int .i64 x.num)).setCell ⟨g, 9, none⟩ (.int .i64 x.slot)).setCell ⟨g, 10, none⟩ (.int .i64 x.till)).heap[g]? = some (.cells #[Value.int .i64 x.kind, Value.int .i64 x.s.t, Value.int .i64 x.s.ser, Value.int .i64 x.s.win, Value.int .i64 x.since, Value.int .i64 x.tries, Value.int .i64 x.rest, Value.int .i64 x.ep, Value.int .i64 x.num, Value.int .i64 x.slot, Value.int .i64 x.till] 133 (0, 0)) := rset (i := 10) h9 (.int .i64 x.till)
  exact h10

set_option maxRecDepth 8000 in
set_option maxHeartbeats 8000000 in
theorem settle_any {B : Nat} {w : World} {p : Nat} {m : RM} {tv nv pv gv kv : Value} (h : RefAt B w p m tv nv pv gv kv) (hB : B ≤ w.heap.size) (hc : m.c.ok) (hnl : m.nums.length ≤ 1000000000) (hgl : m.gone.length ≤ 1000000000000) (hpl : m.pub.length ≤ 1000000000000) (hkl : m.tasks.length ≤ 1000000000000) (hno : ∀ x ∈ m.nums, x.ok) (hnow : 0 ≤ m.now ∧ m.now ≤ 100000) :
    Calls Tryz.prog 90 #[.pointer (some ⟨p, 0, none⟩)] w fun e w' => e = .returned (.tuple #[]) ∧ ∃ kv', RefAt B w' p m.settled tv nv pv gv kv' ∧ Kept (fun k => k = p) w w' ∧ ∀ k, kv'.ownBlock = some k → w.heap.size ≤ k := by
  have H := hide h
  have HS := hide (segments_any h hc hnl hno)
  have hsl := segsOf_len (nums := m.nums) hc.n4 hnl
  have HM := hide (segs_ok hc hno)
  obtain ⟨ak, ck, hkv⟩ := row_slice h.krow
  subst hkv
  have hp := h.lt
  have HSET : Hid (m.settled = { m with tasks := settleTo m (segsOf m.c m.nums) (segsOf m.c m.nums).length }) := rfl
  clear h
  generalize hL : segsOf m.c m.nums = L at *
  clear hL
  go_enter Tryz.func90, Tryz.ntmps90
  go_wp2_with fail
  refine (unhide HS).mono ?_
  rintro e w0 ⟨v, rfl, hv0, hb0⟩
  obtain ⟨al, cl, hvl⟩ := row_slice hv0
  subst hvl
  have HV0 := hide hv0
  have HB0 := hide hb0
  have hz0 := hb0.size
  clear hv0 hb0
  have HRF := hide (fun (u : World) (hu : Below w0.heap.size w0 u) => (unhide H).later ((unhide HB0).trans (hu.mono hz0)))
  have HRW := hide (fun (u : World) (hu : Below w0.heap.size w0 u) => row_later (unhide HV0) hu)
  go_wp2_with fail
  go_loopw [3, 4, 5, 6, 7, 8] (fun z y _ _ _ _ wr => ∃ (i : Nat), i ≤ L.length ∧ y = .int .i64 i ∧ wr.ownsRow w0.heap.size 133 11 z (settleTo m L i).length ((settleTo m L i).flatMap tkV) ∧ Below w0.heap.size w0 wr) (fun _ y _ _ _ _ _ => L.length - (intOf y).toNat)
  case atStart => exact ⟨0, Nat.zero_le _, rfl, World.ownsRow_nil _ _ _ _, Below.refl _ _⟩
  case round =>
    obtain ⟨i, hi, rfl, hz, hbr⟩ := hrel
    obtain ⟨az, cz, hzv⟩ := row_slice hz
    subst hzv
    have HZR := hide hz
    have HBR := hide hbr
    have hsll := settle_len m L i hi
    clear hz hbr
    by_cases hil : i < L.length
    · obtain ⟨s, hs⟩ := rget_of_lt hil
      have hso := unhide HM s (List.mem_of_getElem? hs)
      have hin : (i : Int) < L.length := by omega
      have HSU := hide (settle_succ m L i s hs)
      have HSS := hide hs
      clear hs
      generalize settleTo m L i = A at *
      go_wp2_with fail
      go_loopw [3, 5, 6, 7, 8] (fun z y _ _ _ wr => ∃ (q : Nat), q ≤ 2 ∧ y = .int .i64 ((q : Int) + 1) ∧ wr.ownsRow w0.heap.size 133 11 z (midOut m L A s q).length ((midOut m L A s q).flatMap tkV) ∧ Below w0.heap.size w0 wr) (fun _ y _ _ _ _ => 3 - (intOf y).toNat)
      case atStart => exact ⟨0, by omega, rfl, unhide HZR, unhide HBR⟩
      case round =>
        clear HZR HBR
        obtain ⟨q, hq, rfl, hz, hbr⟩ := hrel
        obtain ⟨az2, cz2, hzv⟩ := row_slice hz
        subst hzv
        have HZR := hide hz
        have HBR := hide hbr
        clear hz hbr
        have hml := mid_len m L A s q
        by_cases hq2 : q < 2
        · have hq3 : (q : Int) + 1 ≤ 2 := by omega
          have HRE : Hid (Calls Tryz.prog 108 #[.pointer (some ⟨p, 0, none⟩), .int .i64 ((q : Int) + 1), .agg #[.int .i64 s.t, .int .i64 s.ser, .int .i64 s.win], .slice al L.length cl] wr fun e w' => e = .returned (.bool (readyK m ((q : Int) + 1) s L)) ∧ Below wr.heap.size wr w') := by
            have h1 := ready1_any (unhide HRF wr (unhide HBR)) hc hgl hpl hnow s hso L _ (by omega) (unhide HRW wr (unhide HBR)) (unhide HM)
            have h2 := ready2_any (unhide HRF wr (unhide HBR)) hc hgl hpl hnow s hso L _ (by omega) (unhide HRW wr (unhide HBR)) (unhide HM)
            rcases (show q = 0 ∨ q = 1 by omega) with rfl | rfl
            · exact h1
            · exact h2
          obtain ⟨g, cap', hvn, _, hgz, x0, x1, x2⟩ := sg_at (unhide HRW wr (unhide HBR)) (unhide HSS)
          injection hvn with hvn1 hvn2 hvn3
          subst hvn1
          clear hvn2 hvn3
          have HMID : Hid (midOut m L A s (q + 1) = stepK m L ((q : Int) + 1) (midOut m L A s q) s) := rfl
          generalize midOut m L A s q = P at *
          cases hre : readyK m ((q : Int) + 1) s L
          · rw [hre] at HRE
            have HST := hide (show stepK m L ((q : Int) + 1) P s = P by simp [stepK, hre])
            clear hre
            go_wp2_with fail
            refine (unhide HRE).mono ?_
            rintro e w1 ⟨rfl, hb1⟩
            go_wp2_with fail
            go_roundw
            case rel => exact ⟨q + 1, by omega, by go_num, by rw [unhide HMID, unhide HST]; exact row_later (unhide HZR) hb1, (unhide HBR).trans (hb1.mono (unhide HBR).size)⟩
            case measure => simp [intOf]; omega
          · rw [hre] at HRE
            have HST := hide (show stepK m L ((q : Int) + 1) P s = insBy lessB (taskFor m ((q : Int) + 1) s) P by simp [stepK, hre])
            clear hre
            go_wp2_with fail
            refine (unhide HRE).mono ?_
            rintro e w1 ⟨rfl, hb1⟩
            have HB1 := hide ((unhide HBR).trans (hb1.mono (unhide HBR).size))
            have z0 := (hb1.cell (p := ⟨g, i * 3, none⟩) hgz).trans x0
            have z1 := (hb1.cell (p := ⟨g, i * 3 + 1, none⟩) hgz).trans x1
            have z2 := (hb1.cell (p := ⟨g, i * 3 + 2, none⟩) hgz).trans x2
            obtain ⟨r7, r8, r9, r10, r11, r12, r13⟩ := (unhide HRF w1 (unhide HB1)).rest
            have hp1 := (unhide HRF w1 (unhide HB1)).lt
            have hg1 : g < w1.heap.size := Nat.lt_of_lt_of_le hgz hb1.size
            have HZ1 := hide (row_later (unhide HZR) hb1)
            clear r8 r9 r10 r11 r12 r13 x0 x1 x2 hb1
            go_wp2_with fail
            go_region
            go_wp2_with fail
            go_loopw [8] (fun y wq => ∃ (k : Nat), k ≤ m.tasks.length ∧ y = .int .i64 k ∧ wq.heap[w1.heap.size]? = some (tkObj ((m.tasks.take k).foldl (pickTk ((q : Int) + 1) s) (newTk m ((q : Int) + 1) s))) ∧ Below w1.heap.size w1 wq) (fun y _ => m.tasks.length - (intOf y).toNat)
            case atStart => exact ⟨0, Nat.zero_le _, rfl, rlast w1 _, ((Below.refl _ _).alloc (Nat.le_refl _) _).drew⟩
            case round =>
              clear z0 z1 z2 r7
              obtain ⟨k, hk, rfl, hT, hbq⟩ := hrel
              have hTz : w1.heap.size < wr.heap.size := lt_of_heap hT
              have HQ := hide ((unhide HB1).trans (hbq.mono (unhide HB1).size))
              have HBQ := hide hbq
              obtain ⟨r7, r8, r9, r10, r11, r12, r13⟩ := (unhide HRF wr (unhide HQ)).rest
              have hpq := (unhide HRF wr (unhide HQ)).lt
              obtain ⟨g', cap2, hvn, _, hgq, x0, x1, x2⟩ := sg_at (unhide HRW wr (unhide HQ)) (unhide HSS)
              injection hvn with hvn1 hvn2 hvn3
              cases hvn1
              clear r7 r8 r9 r10 r12 r13 hbq hvn2 hvn3
              by_cases hkl2 : k < m.tasks.length
              · obtain ⟨x, hx⟩ := rget_of_lt hkl2
                obtain ⟨gt, capt, hvt, _, hgtz, y0, y1, y2, y3, y4, y5, y6, y7, y8, y9, y10⟩ := tk_at (unhide HRF wr (unhide HQ)).krow hx
                injection hvt with hvt1 hvt2 hvt3
                subst hvt1
                have HPT := hide (pick_take m ((q : Int) + 1) s k x hx)
                have hkn : (k : Int) < m.tasks.length := by omega
                generalize (m.tasks.take k).foldl (pickTk ((q : Int) + 1) s) (newTk m ((q : Int) + 1) s) = T at *
                have HT := hide hT
                clear hx hT hvt2 hvt3
                have hne : Nonempty (Later wr.heap.size wr) := Later.some _ _
                have hlc := fun (u : Later wr.heap.size wr) b o h => u.cell b o h
                by_cases o1 : x.kind = (q : Int) + 1
                · have o1b : (x.kind == (q : Int) + 1) = true := by simp [o1]
                  by_cases o2 : x.s = s
                  · have HPK := hide (pick_yes (t := T) o1 o2)
                    have o3 : x.s.t = s.t := by rw [o2]
                    have o4 : x.s.ser = s.ser := by rw [o2]
                    have o5 : x.s.win = s.win := by rw [o2]
                    have p3 : (x.s.t == s.t) = true := by simp [o3]
                    have p4 : (x.s.ser == s.ser) = true := by simp [o4]
                    have p5 : (x.s.win == s.win) = true := by simp [o5]
                    clear o1 o2 o3 o4 o5
                    go_wp2_with fail
                    refine wp_region_later wr.heap.size (by kernel_rfl) (by kernel_rfl) ?_
                    repeat (go_big_quiet_step (fail))
                    refine wpQuiet_nil ?_
                    rintro ⟨w2, hb2⟩
                    dsimp only
                    clear hlc hne
                    have v11 := (hb2.cell (p := ⟨p, 11, none⟩) hpq).trans r11
                    have c0 := (hb2.cell (p := ⟨gt, k * 11, none⟩) hgtz).trans y0
                    have c1 := (hb2.cell (p := ⟨gt, k * 11 + 1, none⟩) hgtz).trans y1
                    have c2 := (hb2.cell (p := ⟨gt, k * 11 + 2, none⟩) hgtz).trans y2
                    have c3 := (hb2.cell (p := ⟨gt, k * 11 + 3, none⟩) hgtz).trans y3
                    have c4 := (hb2.cell (p := ⟨gt, k * 11 + 4, none⟩) hgtz).trans y4
                    have c5 := (hb2.cell (p := ⟨gt, k * 11 + 5, none⟩) hgtz).trans y5
                    have c6 := (hb2.cell (p := ⟨gt, k * 11 + 6, none⟩) hgtz).trans y6
                    have c7 := (hb2.cell (p := ⟨gt, k * 11 + 7, none⟩) hgtz).trans y7
                    have c8 := (hb2.cell (p := ⟨gt, k * 11 + 8, none⟩) hgtz).trans y8
                    have c9 := (hb2.cell (p := ⟨gt, k * 11 + 9, none⟩) hgtz).trans y9
                    have c10 := (hb2.cell (p := ⟨gt, k * 11 + 10, none⟩) hgtz).trans y10
                    have hT2 := (hb2.block _ hTz).trans (unhide HT)
                    obtain ⟨t0, t1, t2, t3, t4, t5, t6, t7, t8, t9, t10⟩ := obj_cells hT2
                    have tf : ∀ j, w2.frozen? ⟨w1.heap.size, j, none⟩ = false := fun j => rfree hT2 j
                    have HT2 := hide hT2
                    have HB2 := hide hb2
                    clear hT2 hb2
                    go_wp2_with fail
                    go_roundw
                    case rel =>
                      refine ⟨k + 1, by omega, by go_num, by rw [unhide HPT, unhide HPK]; exact set11 (unhide HT2) x, ?_⟩
                      repeat (refine below_set ?_ (Nat.le_refl _))
                      exact (unhide HBQ).trans ((unhide HB2).mono (unhide HBQ).size)
                    case measure => simp [intOf]; omega
                  · have HPK := hide (pick_no2 (kind := (q : Int) + 1) (t := T) o2)
                    have hd := sg_ne o2
                    clear o1 o2
                    rcases hd with hd | ⟨hd0, hd⟩ | ⟨hd0, hd1, hd⟩
                    all_goals
                      go_wp2_with fail
                      refine wp_region_later wr.heap.size (by kernel_rfl) (by kernel_rfl) ?_
                      repeat (go_big_quiet_step (fail))
                      refine wpQuiet_nil ?_
                      rintro ⟨w2, hb2⟩
                      dsimp only
                      clear hlc hne
                      have HT2 := hide ((hb2.block _ hTz).trans (unhide HT))
                      have HB2 := hide hb2
                      clear hb2
                      go_wp2_with fail
                      go_roundw
                      case rel => exact ⟨k + 1, by omega, by go_num, by rw [unhide HPT, unhide HPK]; exact unhide HT2, (unhide HBQ).trans ((unhide HB2).mono (unhide HBQ).size)⟩
                      case measure => simp [intOf]; omega
                · have HPK := hide (pick_no1 (s := s) (t := T) o1)
                  have o1b : (x.kind == (q : Int) + 1) = false := by simp [o1]
                  clear o1
                  go_wp2_with fail
                  refine wp_region_later wr.heap.size (by kernel_rfl) (by kernel_rfl) ?_
                  repeat (go_big_quiet_step (fail))
                  refine wpQuiet_nil ?_
                  rintro ⟨w2, hb2⟩
                  dsimp only
                  clear hlc hne
                  have HT2 := hide ((hb2.block _ hTz).trans (unhide HT))
                  have HB2 := hide hb2
                  clear hb2
                  go_wp2_with fail
                  go_roundw
                  case rel => exact ⟨k + 1, by omega, by go_num, by rw [unhide HPT, unhide HPK]; exact unhide HT2, (unhide HBQ).trans ((unhide HB2).mono (unhide HBQ).size)⟩
                  case measure => simp [intOf]; omega
              · have hkk : k = m.tasks.length := by omega
                have hTT : (m.tasks.take k).foldl (pickTk ((q : Int) + 1) s) (newTk m ((q : Int) + 1) s) = taskFor m ((q : Int) + 1) s := by rw [hkk, List.take_length]; rfl
                rw [hTT] at hT
                generalize taskFor m ((q : Int) + 1) s = T at *
                obtain ⟨t0, t1, t2, t3, t4, t5, t6, t7, t8, t9, t10⟩ := obj_cells hT
                have HWI := hide (with_any w0.heap.size P _ T wr (by omega) (row_later (unhide HZ1) (unhide HBQ)))
                clear hT hTT
                go_wp2_with fail
                refine (unhide HWI).mono ?_
                rintro e w4 ⟨v4, rfl, ho4, hb4⟩
                obtain ⟨a4, c4, hv4⟩ := row_slice ho4
                subst hv4
                have HO4 := hide ho4
                have HB4 := hide ((unhide HQ).trans (hb4.mono (unhide HQ).size))
                clear ho4 hb4
                go_wp2_with fail
                go_roundw
                case rel => exact ⟨q + 1, by omega, by go_num, by rw [unhide HMID, unhide HST]; exact owns_base (unhide HO4) (by have := (unhide HQ).size; omega), unhide HB4⟩
                case measure => simp [intOf]; omega
        · have hqq : q = 2 := by omega
          subst hqq
          go_wp2_with fail
          go_roundw
          case rel => exact ⟨i + 1, by omega, by go_num, by rw [unhide HSU]; exact unhide HZR, unhide HBR⟩
          case measure => simp [intOf]; omega
    · have hii : i = L.length := by omega
      subst hii
      have hr := unhide HRF wr (unhide HBR)
      have r11 : wr.cell? ⟨p, 11, none⟩ = some (.slice ak m.tasks.length ck) := by rw [rcell hr.head]; rfl
      have rf : ∀ j, wr.frozen? ⟨p, j, none⟩ = false := fun j => rfree hr.head j
      have hbw : Below w.heap.size w wr := (unhide HB0).trans ((unhide HBR).mono hz0)
      have hpr := hr.lt
      have FIN := hide (hr.setTasks (ts := settleTo m L L.length) (owns_base (unhide HZR) (show B ≤ w0.heap.size by omega)))
      have FO := hide (fun k hk => ((unhide HZR).lt k hk).1)
      have FK := hide (kept_set (i := 11) (v := .slice az (settleTo m L L.length).length cz) (kept_below (Kept.refl (fun k => k = p) w) hbw) rfl)
      clear hr
      go_wp2_with fail
      go_end0
      refine ⟨rfl, _, ?_, unhide FK, fun k hk => Nat.le_trans hz0 (unhide FO k hk)⟩
      rw [unhide HSET]
      exact unhide FIN
end Go.Proofs.YtgadceofpbfleaaGreat

/- Walks: Tick, where no job is leased. -/
namespace Go.Proofs.YtgadceofpbfleaaGreat
open Go.RowKit
set_option linter.unusedVariables false

theorem RefAt.setNow {B : Nat} {w : World} {p : Nat} {m : RM} {tv nv pv gv kv : Value} (h : RefAt B w p m tv nv pv gv kv) (n : Int) : RefAt B (w.setCell ⟨p, 7, none⟩ (.int .i64 n)) p { m with now := n } tv nv pv gv kv := by
  have hk : Kept (fun k => k = p) w (w.setCell ⟨p, 7, none⟩ (.int .i64 n)) := kept_set (Kept.refl _ _) rfl
  exact ⟨rset (i := 7) h.head (.int .i64 n), h.base, owns_kept h.trow hk (row_apart h.head h.trow (by decide)), owns_kept h.nrow hk (row_apart h.head h.nrow (by decide)), owns_kept h.prow hk (row_apart h.head h.prow (by decide)), owns_kept h.grow hk (row_apart h.head h.grow (by decide)), owns_kept h.krow hk (row_apart h.head h.krow (by decide))⟩

/-- P5, plainly, where no job is leased. -/
def RM.tick (m : RM) (n : Int) : RM × Int := if n < 1 ∨ 1000 < n ∨ 100000 < m.now + n then (m, 5) else ({ m with now := m.now + n }.settled, 0)
theorem tick_bad {m : RM} {n : Int} (h : n < 1 ∨ 1000 < n ∨ 100000 < m.now + n) : m.tick n = (m, 5) := by simp [RM.tick, h]
theorem tick_ok {m : RM} {n : Int} (h : ¬ (n < 1 ∨ 1000 < n ∨ 100000 < m.now + n)) : m.tick n = ({ m with now := m.now + n }.settled, 0) := by unfold RM.tick; rw [if_neg h]

set_option maxRecDepth 8000 in
set_option maxHeartbeats 4000000 in
theorem tick_any {B : Nat} {w : World} {p : Nat} {m : RM} {tv nv pv gv kv : Value} (h : RefAt B w p m tv nv pv gv kv) (hB : B ≤ w.heap.size) (hc : m.c.ok) (hnl : m.nums.length ≤ 1000000000) (hgl : m.gone.length ≤ 1000000000000) (hpl : m.pub.length ≤ 1000000000000) (hkl : m.tasks.length ≤ 1000000000000) (hno : ∀ x ∈ m.nums, x.ok) (hnow : 0 ≤ m.now ∧ m.now ≤ 100000) (hfree : ∀ x ∈ m.tasks, x.slot = -1) (n : Int) (hn : -9223372036854775808 ≤ n ∧ n ≤ 9223372036854775807) :
    Calls Tryz.prog 57 #[.pointer (some ⟨p, 0, none⟩), .int .i64 n] w fun e w' => e = .returned (.int .i64 (m.tick n).2) ∧ ∃ kv', RefAt B w' p (m.tick n).1 tv nv pv gv kv' ∧ Kept (fun k => k = p) w w' ∧ ∀ k, kv'.ownBlock = some k → kv.ownBlock = some k ∨ w.heap.size ≤ k := by
  obtain ⟨hn1, hn2⟩ := hn
  obtain ⟨hw1, hw2⟩ := hnow
  obtain ⟨r7, r8, r9, r10, r11, r12, r13⟩ := h.rest
  have hp := h.lt
  have rf : ∀ j, w.frozen? ⟨p, j, none⟩ = false := fun j => rfree h.head j
  have H := hide h
  have HFREE := hide hfree
  obtain ⟨ak, ck, hkv⟩ := row_slice h.krow
  subst hkv
  clear r8 r9 r10 r11 r12 r13 h hfree
  by_cases h1 : n < 1
  · rw [tick_bad (.inl h1)]
    go_enter Tryz.func57, Tryz.ntmps57
    go_wp2_with fail
    go_ret
    exact ⟨rfl, _, unhide H, Kept.refl _ _, fun k hk => .inl hk⟩
  by_cases h2 : 1000 < n
  · rw [tick_bad (.inr (.inl h2))]
    go_enter Tryz.func57, Tryz.ntmps57
    go_wp2_with fail
    go_ret
    exact ⟨rfl, _, unhide H, Kept.refl _ _, fun k hk => .inl hk⟩
  by_cases h3 : 100000 < m.now + n
  · rw [tick_bad (.inr (.inr h3))]
    go_enter Tryz.func57, Tryz.ntmps57
    go_wp2_with fail
    go_ret
    exact ⟨rfl, _, unhide H, Kept.refl _ _, fun k hk => .inl hk⟩
  have HT := hide (tick_ok (m := m) (n := n) (by omega))
  have H1 := hide ((unhide H).setNow (m.now + n))
  have HK1 := hide (kept_set (i := 7) (v := .int .i64 (m.now + n)) (Kept.refl (fun k => k = p) w) rfl)
  have hz1 : (w.setCell ⟨p, 7, none⟩ (.int .i64 (m.now + n))).heap.size = w.heap.size := by simp [World.setCell]
  rw [unhide HT]
  go_enter Tryz.func57, Tryz.ntmps57
  go_wp2_with fail
  generalize (w.setCell ⟨p, 7, none⟩ (.int .i64 (m.now + n))) = W at *
  go_loopw [5] (fun y wr => ∃ (i : Nat), i ≤ m.tasks.length ∧ y = .int .i64 i ∧ Below W.heap.size W wr) (fun y _ => m.tasks.length - (intOf y).toNat)
  case atStart => exact ⟨0, Nat.zero_le _, rfl, Below.refl _ _⟩
  case round =>
    obtain ⟨i, hi, rfl, hbr⟩ := hrel
    have HR := hide ((unhide H1).later hbr)
    obtain ⟨r7, r8, r9, r10, r11, r12, r13⟩ := (unhide HR).rest
    have hpr := (unhide HR).lt
    have HBR := hide hbr
    clear r7 r8 r9 r10 r12 r13 hbr
    by_cases hil : i < m.tasks.length
    · obtain ⟨x, hx⟩ := rget_of_lt hil
      have hsl := unhide HFREE x (List.mem_of_getElem? hx)
      obtain ⟨gt, capt, hvt, _, hgtz, y0, y1, y2, y3, y4, y5, y6, y7, y8, y9, y10⟩ := tk_at (unhide HR).krow hx
      injection hvt with hvt1 hvt2 hvt3
      subst hvt1
      rw [hsl] at y9
      have hin : (i : Int) < m.tasks.length := by omega
      have hne : Nonempty (Later wr.heap.size wr) := Later.some _ _
      have hlc := fun (u : Later wr.heap.size wr) b o h => u.cell b o h
      clear hx hvt2 hvt3 y0 y1 y2 y3 y4 y5 y6 y7 y8
      go_wp2_with fail
      refine wp_region_later wr.heap.size (by kernel_rfl) (by kernel_rfl) ?_
      repeat (go_big_quiet_step (fail))
      refine wpQuiet_nil ?_
      rintro ⟨w2, hb2⟩
      dsimp only
      clear hlc hne
      have HB2 := hide ((unhide HBR).trans (hb2.mono (unhide HBR).size))
      clear hb2
      go_wp2_with fail
      go_roundw
      case rel => exact ⟨i + 1, by omega, by go_num, unhide HB2⟩
      case measure => simp [intOf]; omega
    · have HSE := hide (settle_any (unhide HR) (by have := (unhide HBR).size; omega) hc hnl hgl hpl hkl hno (by show 0 ≤ m.now + n ∧ m.now + n ≤ 100000; omega))
      go_wp2_with fail
      refine (unhide HSE).mono ?_
      rintro e w3 ⟨rfl, kv', hr3, hk3, hf3⟩
      go_wp2_with fail
      go_ret
      refine ⟨rfl, kv', hr3, ((unhide HK1).trans (g := fun k => k = p) (kept_below (Kept.refl _ _) (unhide HBR)) (fun _ _ h => h)).trans hk3 (fun _ _ h => h), fun k hk => .inr ?_⟩
      have := hf3 k hk; have := (unhide HBR).size; omega
end Go.Proofs.YtgadceofpbfleaaGreat

/- Walks: Ingest of the document's mill. -/
namespace Go.Proofs.YtgadceofpbfleaaGreat
open Go.RowKit
set_option linter.unusedVariables false

theorem Tryz.infoNumber : (Tryz.prog.info? 155).map (fun i => (i.zero, i.size, i.bytes)) = some (some (.agg #[.int .i64 0, .int .i64 0, .int .i32 0]), 3, 24) := by kernel_rfl

def nmObj (x : Nm) : Obj := .cells #[.int .i64 x.ser, .int .i64 x.tm, .int .i32 x.val] 155 (0, 0)

theorem step_push_nm {w : World} {ops : Array Oper} {o : Oper} {a : Act} {K : Act → World → Prop} {Q : Exit → Act → World → Prop} {E : Prop} (hgd : o.guard = none) (s x : Operand)
    (ho : o.op = .call { callee := .builtin .append, args := #[s, x], argTypes := #[79, 79] }) (base : Nat) (v : Value) (l : List Nm) (f : Nm) (hs : a.eval s = v) (hown : w.ownsRow base 155 3 v l.length (l.flatMap nmV))
    (B1 : Nat) (hx : a.eval x = .slice (some ⟨B1, 0, none⟩) 1 1) (hB1 : w.heap[B1]? = some (nmObj f)) (hl : l.length ≤ 1099511627776) (hbase : base ≤ w.heap.size)
    (h : ∀ g cap w', w'.ownsRow base 155 3 (.slice (some ⟨g, 0, none⟩) (l.length + 1) cap) (l ++ [f]).length ((l ++ [f]).flatMap nmV) → w.grownBy w' v.ownBlock → (v.ownBlock = some g ∨ g = w.heap.size) → g < w'.heap.size → K (a.put o.dst (.slice (some ⟨g, 0, none⟩) (l.length + 1) cap)) w') :
    if Region.wanted o (yielded ops a.tmps) = true then Oper.wp Tryz.prog o a w K Q else E := by
  have hw : Region.wanted o (yielded ops a.tmps) = true := by simp [Region.wanted, hgd]
  rw [if_pos hw]
  have hinfo := Tryz.infoNumber
  cases hq : Tryz.prog.info? 155 with
  | none => simp [hq] at hinfo
  | some i =>
    simp only [hq, Option.map_some, Option.some.injEq, Prod.mk.injEq] at hinfo
    obtain ⟨hz, hsize, hby⟩ := hinfo
    obtain ⟨g, cap, w', hr, h2, _, h4, h5, h6⟩ := run_append_keep (P := Tryz.prog) w 79 o.type base 155 i _ 3 24 Tryz.underlying79 hq hz hsize hby rfl (by decide) v l.length (l.flatMap nmV) hown ⟨B1, 0, none⟩ 1 1 (nmV f) rfl
      (World.news_of_block (cs := (nmV f).toArray) hB1) (nmV_one f) (by decide) (by simp only [maxLen]; omega) (by omega) hbase
    unfold Oper.wp
    simp [execOp, ho, resolve, invoke, builtin, hs, hx, hr, Result.andThen]
    exact h g cap w' (flat_row h2) h4 h5 h6

theorem rowns_drew {w : World} {base size n : Nat} {e : TypeId} {v : Value} {xs : List Value} (h : w.ownsRow base e size v n xs) : w.drew.ownsRow base e size v n xs := h
theorem rgrown_drew {w w' : World} {row : Option Nat} (h : w.drew.grownBy w' row) : w.grownBy w' row := ⟨h.os, h.tape, h.output, h.size, h.block⟩
theorem rlast_drew (w : World) (o : Obj) : (w.alloc o).drew.heap[w.heap.size]? = some o := rlast w o
theorem rsize_drew (w : World) (o : Obj) : (w.alloc o).drew.heap.size = w.heap.size + 1 := rsize w o
theorem rows_apart {w : World} {B1 B2 s1 s2 n1 n2 : Nat} {e1 e2 : TypeId} {v1 v2 : Value} {x1 x2 : List Value} (h1 : w.ownsRow B1 e1 s1 v1 n1 x1) (h2 : w.ownsRow B2 e2 s2 v2 n2 x2) (hT : e1 ≠ e2) : ∀ k, v1.ownBlock = some k → ¬ v2.ownBlock = some k := fun k hk hk2 => by
  obtain ⟨c1, hc1⟩ := owns_type h1 hk
  obtain ⟨c2, hc2⟩ := owns_type h2 hk2
  rw [hc1] at hc2
  injection hc2 with hc; injection hc with _ hc; exact hT hc
theorem RefAt.setNums {B : Nat} {w w5 : World} {p : Nat} {m : RM} {tv nv pv gv kv z : Value} {x : Nm} (h : RefAt B w p m tv nv pv gv kv) (hk : Kept (fun k => nv.ownBlock = some k) w w5) (hown : w5.ownsRow B 155 3 z (m.nums ++ [x]).length ((m.nums ++ [x]).flatMap nmV)) : RefAt B (w5.setCell ⟨p, 8, none⟩ z) p { m with nums := m.nums ++ [x] } tv z pv gv kv := by
  have hp5 := hk.heap h.head (fun e => row_apart h.head h.nrow (by decide) p e rfl)
  have hs : Kept (fun k => k = p) w5 (w5.setCell ⟨p, 8, none⟩ z) := kept_set (Kept.refl _ _) rfl
  have a1 := owns_kept h.trow hk (rows_apart h.trow h.nrow (by decide))
  have a2 := owns_kept h.prow hk (rows_apart h.prow h.nrow (by decide))
  have a3 := owns_kept h.grow hk (rows_apart h.grow h.nrow (by decide))
  have a4 := owns_kept h.krow hk (rows_apart h.krow h.nrow (by decide))
  exact ⟨rset (i := 8) hp5 z, h.base, owns_kept a1 hs (row_apart hp5 a1 (by decide)), owns_kept hown hs (row_apart hp5 hown (by decide)), owns_kept a2 hs (row_apart hp5 a2 (by decide)), owns_kept a3 hs (row_apart hp5 a3 (by decide)), owns_kept a4 hs (row_apart hp5 a4 (by decide))⟩

def costTo (m : RM) (L : List Sg) (x : Nm) (k : Nat) : Int := (List.range k).foldl (fun (c : Int) (t : Nat) => if segOf m.c (t : Int) x ∈ L then c else c + 2) (m.used + 1)
theorem cost_in {m : RM} {L : List Sg} {x : Nm} {k : Nat} (h : segOf m.c (k : Int) x ∈ L) : costTo m L x (k + 1) = costTo m L x k := by simp [costTo, List.range_succ, h]
theorem cost_out {m : RM} {L : List Sg} {x : Nm} {k : Nat} (h : ¬ segOf m.c (k : Int) x ∈ L) : costTo m L x (k + 1) = costTo m L x k + 2 := by simp [costTo, List.range_succ, h]
theorem cost_bounds (m : RM) (L : List Sg) (x : Nm) : ∀ k : Nat, m.used + 1 ≤ costTo m L x k ∧ costTo m L x k ≤ m.used + 1 + 2 * k
  | 0 => by simp [costTo]
  | k + 1 => by
    have := cost_bounds m L x k
    by_cases h : segOf m.c (k : Int) x ∈ L
    · rw [cost_in h]; omega
    · rw [cost_out h]; omega

/-- P4, plainly. -/
def RM.ingest (m : RM) (ser tm val : Int) : RM × Int :=
  if ser < 0 ∨ 4 ≤ ser then (m, 2)
  else if tm < 0 ∨ m.now < tm then (m, 5)
  else if tm < m.now - m.c.la then (m, 3)
  else if m.c.qu < costTo m (segsOf m.c m.nums) ⟨ser, tm, val⟩ m.c.n then (m, 4)
  else ({ m with nums := m.nums ++ [Nm.mk ser tm val] }.settled, 0)
theorem ingest_arg {m : RM} {ser tm val : Int} (h : ser < 0 ∨ 4 ≤ ser) : m.ingest ser tm val = (m, 2) := by simp [RM.ingest, h]
theorem ingest_time {m : RM} {ser tm val : Int} (h : ¬ (ser < 0 ∨ 4 ≤ ser)) (h1 : tm < 0 ∨ m.now < tm) : m.ingest ser tm val = (m, 5) := by unfold RM.ingest; rw [if_neg h, if_pos h1]
theorem ingest_late {m : RM} {ser tm val : Int} (h : ¬ (ser < 0 ∨ 4 ≤ ser)) (h1 : ¬ (tm < 0 ∨ m.now < tm)) (h2 : tm < m.now - m.c.la) : m.ingest ser tm val = (m, 3) := by unfold RM.ingest; rw [if_neg h, if_neg h1, if_pos h2]
theorem ingest_full {m : RM} {ser tm val : Int} (h : ¬ (ser < 0 ∨ 4 ≤ ser)) (h1 : ¬ (tm < 0 ∨ m.now < tm)) (h2 : ¬ tm < m.now - m.c.la) (h3 : m.c.qu < costTo m (segsOf m.c m.nums) ⟨ser, tm, val⟩ m.c.n) : m.ingest ser tm val = (m, 4) := by unfold RM.ingest; rw [if_neg h, if_neg h1, if_neg h2, if_pos h3]
theorem ingest_ok {m : RM} {ser tm val : Int} (h : ¬ (ser < 0 ∨ 4 ≤ ser)) (h1 : ¬ (tm < 0 ∨ m.now < tm)) (h2 : ¬ tm < m.now - m.c.la) (h3 : ¬ m.c.qu < costTo m (segsOf m.c m.nums) ⟨ser, tm, val⟩ m.c.n) : m.ingest ser tm val = ({ m with nums := m.nums ++ [Nm.mk ser tm val] }.settled, 0) := by unfold RM.ingest; rw [if_neg h, if_neg h1, if_neg h2, if_neg h3]

/-- what Ingest leaves. -/
def ingPost (B : Nat) (w : World) (p : Nat) (m : RM) (tv nv pv gv kv : Value) (w' : World) : Prop :=
  ∃ nv' kv', RefAt B w' p m tv nv' pv gv kv' ∧ Kept (fun k => k = p ∨ nv.ownBlock = some k) w w' ∧ (∀ k, nv'.ownBlock = some k → nv.ownBlock = some k ∨ w.heap.size ≤ k) ∧ ∀ k, kv'.ownBlock = some k → kv.ownBlock = some k ∨ w.heap.size ≤ k
theorem ingPost_same {B : Nat} {w w' : World} {p : Nat} {m : RM} {tv nv pv gv kv : Value} (h : RefAt B w p m tv nv pv gv kv) (hb : Below w.heap.size w w') : ingPost B w p m tv nv pv gv kv w' :=
  ⟨nv, kv, h.later hb, Kept.of_below hb, fun _ h => .inl h, fun _ h => .inl h⟩

set_option maxRecDepth 8000 in
set_option maxHeartbeats 8000000 in
theorem ringest_any {B : Nat} {w : World} {p : Nat} {m : RM} {tv nv pv gv kv : Value} (h : RefAt B w p m tv nv pv gv kv) (hB : B ≤ w.heap.size) (hc : m.c.ok) (hnl : m.nums.length ≤ 100000000) (hgl : m.gone.length ≤ 1000000000000) (hpl : m.pub.length ≤ 1000000000000) (hkl : m.tasks.length ≤ 1000000000000) (hno : ∀ x ∈ m.nums, x.ok) (hnow : 0 ≤ m.now ∧ m.now ≤ 100000) (hu : m.used ≤ 1000000000000000000) (ser tm val : Int) (hval : -2147483648 ≤ val ∧ val ≤ 2147483647) :
    Calls Tryz.prog 56 #[.pointer (some ⟨p, 0, none⟩), .int .i64 ser, .int .i64 tm, .int .i32 val] w fun e w' => e = .returned (.int .i64 (m.ingest ser tm val).2) ∧ ingPost B w p (m.ingest ser tm val).1 tv nv pv gv kv w' := by
  obtain ⟨hw1, hw2⟩ := hnow
  obtain ⟨r7, r8, r9, r10, r11, r12, r13⟩ := h.rest
  have hp := h.lt
  obtain ⟨c0, c1, c2, c3, c4, c5, c6⟩ := h.conf
  obtain ⟨hl1, hl2⟩ := hc.la
  have H := hide h
  obtain ⟨an, cn, hnv⟩ := row_slice h.nrow
  subst hnv
  obtain ⟨at_, ct, htv⟩ := row_slice h.trow
  subst htv
  clear r8 r9 r10 r11 r12 r13 h c0 c1 c3 c4 c5 c6
  by_cases e1 : ser < 0
  · rw [ingest_arg (.inl e1)]
    go_enter Tryz.func56, Tryz.ntmps56
    go_wp2_with fail
    go_ret
    exact ⟨rfl, ingPost_same (unhide H) (Below.refl _ _)⟩
  by_cases e2 : 4 ≤ ser
  · rw [ingest_arg (.inr e2)]
    go_enter Tryz.func56, Tryz.ntmps56
    go_wp2_with fail
    go_ret
    exact ⟨rfl, ingPost_same (unhide H) (Below.refl _ _)⟩
  by_cases e3 : tm < 0
  · rw [ingest_time (by omega) (.inl e3)]
    go_enter Tryz.func56, Tryz.ntmps56
    go_wp2_with fail
    go_ret
    exact ⟨rfl, ingPost_same (unhide H) (Below.refl _ _)⟩
  by_cases e4 : m.now < tm
  · rw [ingest_time (by omega) (.inr e4)]
    go_enter Tryz.func56, Tryz.ntmps56
    go_wp2_with fail
    go_ret
    exact ⟨rfl, ingPost_same (unhide H) (Below.refl _ _)⟩
  have hne : Nonempty (Later w.heap.size w) := Later.some _ _
  have hlc := fun (u : Later w.heap.size w) b o h => u.cell b o h
  by_cases e5 : tm < m.now - m.c.la
  · rw [ingest_late (by omega) (by omega) e5]
    go_enter Tryz.func56, Tryz.ntmps56
    go_wp2_with fail
    refine wp_region_later w.heap.size (by kernel_rfl) (by kernel_rfl) ?_
    repeat (go_big_quiet_step (fail))
    refine wpQuiet_nil ?_
    rintro ⟨w1, hb1⟩
    dsimp only
    clear hlc hne
    go_wp2_with fail
    go_ret
    exact ⟨rfl, ingPost_same (unhide H) hb1⟩
  have hxo : (Nm.mk ser tm val).ok := ⟨hval.1, hval.2, by show 0 ≤ tm; omega, by show tm ≤ 100000; omega, by show 0 ≤ ser; omega, by show ser < 4; omega⟩
  have hsl := segsOf_len (nums := m.nums) hc.n4 (by omega)
  have hub := used_small (c := m.c) (rc := m.gone) (l := segsOf m.c m.nums) hsl (by omega) hno
  have hu0 : 0 ≤ m.used := hub.1
  have HFULL := hide (ingest_full (m := m) (ser := ser) (tm := tm) (val := val) (by omega) (by omega) (by omega))
  have HOK := hide (ingest_ok (m := m) (ser := ser) (tm := tm) (val := val) (by omega) (by omega) (by omega))
  have hn4 := hc.n4
  obtain ⟨hq1, hq2⟩ := hc.qu
  clear hub
  go_enter Tryz.func56, Tryz.ntmps56
  go_wp2_with fail
  refine wp_region_later w.heap.size (by kernel_rfl) (by kernel_rfl) ?_
  repeat (go_big_quiet_step (fail))
  refine wpQuiet_nil ?_
  rintro ⟨w1, hb1⟩
  dsimp only
  clear hlc hne
  have hbX : Below w.heap.size w (w1.alloc (nmObj ⟨ser, tm, val⟩)) := hb1.alloc hb1.size _
  have hXl := rlast w1 (nmObj ⟨ser, tm, val⟩)
  have hXz := rsize w1 (nmObj ⟨ser, tm, val⟩)
  have HSG := hide (segments_any ((unhide H).later hbX) hc (by omega) hno)
  have hw1z := hb1.size
  clear hb1 r7 c2
  go_wp2_with fail
  change Calls Tryz.prog _ _ (w1.alloc (nmObj ⟨ser, tm, val⟩)) _
  generalize (w1.alloc (nmObj ⟨ser, tm, val⟩)) = X at *
  refine (unhide HSG).mono ?_
  rintro e w2 ⟨v, rfl, hv2, hb2⟩
  obtain ⟨al, cl, hvl⟩ := row_slice hv2
  subst hvl
  have HV2 := hide hv2
  have HB2 := hide hb2
  have hb02 : Below w.heap.size w w2 := hbX.trans (hb2.mono hbX.size)
  have HUS := hide (used_any ((unhide H).later hb02) hc (by omega) hgl hno)
  clear hv2 HSG
  go_wp2_with fail
  refine (unhide HUS).mono ?_
  rintro e w3 ⟨rfl, hb3⟩
  have hb23 : Below X.heap.size X w3 := hb2.trans (hb3.mono hb2.size)
  have HB23 := hide hb23
  have hb03 : Below w.heap.size w w3 := hbX.trans (hb23.mono hbX.size)
  have HB03 := hide hb03
  have HV3 := hide (row_later (unhide HV2) hb3)
  have HX3 := hide ((hb23.block w1.heap.size (by omega)).trans hXl)
  have hz03 := hb03.size
  have HXZ := hide hXz
  clear hb2 hb3 hb23 hb03 hXl hXz hb02 HUS hbX
  generalize hL : segsOf m.c m.nums = L at *
  have HCB := hide (cost_bounds m L ⟨ser, tm, val⟩)
  go_wp2_with fail
  go_loopw [11, 12, 13, 14] (fun z y _ _ wr => ∃ (k : Nat), k ≤ m.c.n ∧ y = .int .i64 k ∧ z = .int .i64 (costTo m L ⟨ser, tm, val⟩ k) ∧ Below w3.heap.size w3 wr) (fun _ y _ _ _ => m.c.n - (intOf y).toNat)
  case atStart => exact ⟨0, Nat.zero_le _, rfl, by simp [costTo], Below.refl _ _⟩
  case round =>
    obtain ⟨k, hk, rfl, rfl, hbr⟩ := hrel
    have HBR := hide hbr
    have hb0r : Below w.heap.size w wr := (unhide HB03).trans (hbr.mono hz03)
    have HR := hide ((unhide H).later hb0r)
    have HB0R := hide hb0r
    obtain ⟨c0, c1, c2, c3, c4, c5, c6⟩ := (unhide HR).conf
    have hpr := (unhide HR).lt
    have hbx := (hbr.block w1.heap.size (lt_of_heap (unhide HX3))).trans (unhide HX3)
    have HBX := hide hbx
    have hcb := unhide HCB k
    obtain ⟨hcb1, hcb2⟩ := hcb
    have hwz := lt_of_heap hbx
    have HVR := hide (row_later (unhide HV3) hbr)
    clear c0 c1 c2 c3 c4 hbr hb0r
    by_cases hkm : k < m.c.n
    · have n0 : wr.cell? ⟨w1.heap.size, 0, none⟩ = some (.int .i64 ser) := by rw [rcell hbx]; rfl
      have n1 : wr.cell? ⟨w1.heap.size, 1, none⟩ = some (.int .i64 tm) := by rw [rcell hbx]; rfl
      have n2 : wr.cell? ⟨w1.heap.size, 2, none⟩ = some (.int .i32 val) := by rw [rcell hbx]; rfl
      have hkn : (k : Int) < m.c.n := by omega
      have HSE := hide (segment_any (unhide HR) hc (k : Int) (by omega) hkn ⟨ser, tm, val⟩ hxo)
      clear hbx c5
      go_wp2_with fail
      refine (unhide HSE).mono ?_
      rintro e w4 ⟨rfl, hb4⟩
      have HCI := hide (cost_in (m := m) (L := L) (x := ⟨ser, tm, val⟩) (k := k))
      have HCO := hide (cost_out (m := m) (L := L) (x := ⟨ser, tm, val⟩) (k := k))
      generalize costTo m L ⟨ser, tm, val⟩ k = C at *
      generalize segOf m.c (k : Int) ⟨ser, tm, val⟩ = sg at *
      have hbo : ∀ o, Below wr.heap.size wr (w4.alloc o) := fun o => hb4.alloc hb4.size _
      have HAM := hide (among_any X.heap.size L _ sg _ (by omega) (row_later (unhide HVR) (hbo (.cells #[.int .i64 sg.t, .int .i64 sg.ser, .int .i64 sg.win] 126))))
      have HBO := hide (hbo (.cells #[.int .i64 sg.t, .int .i64 sg.ser, .int .i64 sg.win] 126))
      clear hbo hb4
      rcases memB_cases sg L with ⟨hm, hm2⟩ | ⟨hm, hm2⟩
      · rw [hm] at HAM
        have HCC := hide (unhide HCI hm2)
        clear hm hm2
        go_wp2_with fail
        refine (unhide HAM).mono ?_
        rintro e w5 ⟨rfl, hb5⟩
        have FB := hide ((unhide HBR).trans (((unhide HBO).trans (hb5.mono (unhide HBO).size)).mono (unhide HBR).size))
        go_wp2_with fail
        go_roundw
        case rel => exact ⟨k + 1, by omega, by go_num, by rw [unhide HCC], unhide FB⟩
        case measure => simp [intOf]; omega
      · rw [hm] at HAM
        have HCC := hide (unhide HCO hm2)
        clear hm hm2
        go_wp2_with fail
        refine (unhide HAM).mono ?_
        rintro e w5 ⟨rfl, hb5⟩
        have FB := hide ((unhide HBR).trans (((unhide HBO).trans (hb5.mono (unhide HBO).size)).mono (unhide HBR).size))
        go_wp2_with fail
        go_roundw
        case rel => exact ⟨k + 1, by omega, by go_num, by rw [unhide HCC], unhide FB⟩
        case measure => simp [intOf]; omega
    · have hkk : k = m.c.n := by omega
      subst hkk
      by_cases hfull : m.c.qu < costTo m L ⟨ser, tm, val⟩ m.c.n
      · have HF := hide (unhide HFULL hfull)
        generalize costTo m L ⟨ser, tm, val⟩ m.c.n = C at *
        go_wp2_with fail
        go_ret
        rw [unhide HF]
        exact ⟨rfl, ingPost_same (unhide H) (unhide HB0R)⟩
      · have HF := hide (unhide HOK (by omega))
        generalize costTo m L ⟨ser, tm, val⟩ m.c.n = C at *
        go_wp2_with fail
        have n0 : wr.cell? ⟨w1.heap.size, 0, none⟩ = some (.int .i64 ser) := by rw [rcell hbx]; rfl
        have n1 : wr.cell? ⟨w1.heap.size, 1, none⟩ = some (.int .i64 tm) := by rw [rcell hbx]; rfl
        have n2 : wr.cell? ⟨w1.heap.size, 2, none⟩ = some (.int .i32 val) := by rw [rcell hbx]; rfl
        have r8 : wr.cell? ⟨p, 8, none⟩ = some (.slice an m.nums.length cn) := by rw [rcell (unhide HR).head]; rfl
        have rf : wr.frozen? ⟨p, 8, none⟩ = false := rfree (unhide HR).head 8
        have HROW := hide (unhide HR).nrow
        have hBr : B ≤ wr.heap.size := Nat.le_trans hB (unhide HB0R).size
        have za : ∀ o : Obj, (wr.alloc o).cell? ⟨p, 8, none⟩ = some (.slice an m.nums.length cn) := fun o => (((Below.refl wr.heap.size wr).alloc (Nat.le_refl _) o).cell (p := ⟨p, 8, none⟩) hpr).trans r8
        clear hbx
        go_region_law (refine step_push_nm rfl (.tmp 84) (.tmp 86) rfl B _ m.nums ⟨ser, tm, val⟩ (by simp [Act.eval]) (rowns_drew ((unhide HROW).alloc _)) wr.heap.size (by simp [Act.eval]) (rlast_drew wr (nmObj ⟨ser, tm, val⟩)) ?hll ?hbb ?_; (case hll => omega); (case hbb => (rw [rsize_drew]; omega)); intro g3 cap3 w5 hown hgrow0 hat hlt3; have hgrow := rgrown_drew hgrow0; clear hgrow0; have hk5 : Kept (fun k => (Value.slice an m.nums.length cn).ownBlock = some k) wr w5 := Kept.grown ((Kept.refl _ _).alloc _) hgrow (fun k hk _ => hk); have hp5 : w5.heap[p]? = wr.heap[p]? := (hk5.block p hpr (fun e => row_apart (unhide HR).head (unhide HROW) (by decide) p e rfl)); have d0 := (World.cell?_of_block (a := ⟨p, 8, none⟩) hp5).trans r8; have d1 := (World.frozen?_of_block (a := ⟨p, 8, none⟩) hp5).trans rf)
        all_goals
          have H5 := hide ((unhide HR).setNums hk5 hown)
          have h5z : wr.heap.size ≤ w5.heap.size := hk5.size
          have h5s : (w5.setCell ⟨p, 8, none⟩ (.slice (some ⟨g3, 0, none⟩) (m.nums.length + 1) cap3)).heap.size = w5.heap.size := by simp [World.setCell]
          have hw0r := (unhide HB0R).size
          have HSE := hide (settle_any (unhide H5) (by omega) hc (by show (m.nums ++ [Nm.mk ser tm val]).length ≤ 1000000000; simp; omega) hgl hpl hkl (fun x hx => by
            rcases List.mem_append.1 hx with hx | hx
            · exact hno x hx
            · rw [List.mem_singleton.1 hx]; exact hxo) ⟨hw1, hw2⟩)
          have HAT := hide hat
          have HK5 := hide hk5
          clear hat hk5 hown hgrow
          go_wp2_with fail
          refine (unhide HSE).mono ?_
          rintro e w6 ⟨rfl, kv', hr6, hk6, hf6⟩
          have HR6 := hide hr6
          clear hr6
          go_wp2_with fail
          go_ret
          rw [unhide HF]
          refine ⟨rfl, _, kv', unhide HR6, ?_, fun k hk => ?_, fun k hk => .inr ?_⟩
          · have k1 : Kept (fun k => k = p ∨ (Value.slice an m.nums.length cn).ownBlock = some k) w wr := Kept.of_below (unhide HB0R)
            have k2 := k1.trans (unhide HK5) (fun _ _ h => .inr h)
            have k3 := kept_set (i := 8) (g := p) (v := .slice (some ⟨g3, 0, none⟩) (m.nums.length + 1) cap3) k2 (.inl rfl)
            exact k3.trans hk6 (fun _ _ h => .inl h)
          · simp [Value.ownBlock] at hk
            subst hk
            rcases unhide HAT with h | h
            · exact .inl h
            · right; rw [rsize_drew] at h; omega
          · have := hf6 k hk; omega
end Go.Proofs.YtgadceofpbfleaaGreat

/- Walks: New of the document's mill. -/
namespace Go.Proofs.YtgadceofpbfleaaGreat
open Go.RowKit
set_option linter.unusedVariables false

theorem Tryz.infoTierR : (Tryz.prog.info? 32).map (fun i => (i.zero, i.size, i.bytes)) = some (some (.agg #[.int .i64 0, .int .i64 0, .int .i64 0]), 3, 24) := by kernel_rfl

def madeTiers (n : Nat) : Array Value := madeCells #[.int .i64 0, .int .i64 0, .int .i64 0] (n * 3)
theorem size_madeTiers (n : Nat) : (madeTiers n).size = n * 3 := size_madeCells _ _
theorem make_tiers_n (n : Nat) (hb : n ≤ 4) (wx : World) :
    (Instr.makeSlice 33 (.int .i64 (n : Int)) (.int .i64 (n : Int))).run Tryz.prog wx = .ok (.slice (some ⟨wx.heap.size, 0, none⟩) n n) (wx.alloc (.cells (madeTiers n) 32)) := by
  have hi := Tryz.infoTierR
  cases hq : Tryz.prog.info? 32 with
  | none => simp [hq] at hi
  | some i =>
    simp only [hq, Option.map_some, Option.some.injEq, Prod.mk.injEq] at hi
    obtain ⟨hz, hs, hbt⟩ := hi
    have hr := run_make (P := Tryz.prog) wx 33 32 i _ Tryz.underlying33 hq hz .i64 .i64 (n : Int) (n : Int) (by omega) (by omega) (by rw [hbt]; omega) (by omega)
    rw [hr, hs]
    rfl

theorem tsCells {w : World} {a : Option Addr} {n : Nat} {F W K : Nat → Int} (h : TS w a n F W K) : 0 < (row3 n F W K).length → ∃ ad, a = some ad ∧ ∀ j v, (row3 n F W K)[j]? = some v → w.cell? (ad.add j) = some v := by
  intro h0
  rw [row3_length] at h0
  obtain ⟨b, off, rfl, _, hc⟩ := h (by omega)
  refine ⟨_, rfl, fun j v hv => ?_⟩
  have hj : j < n * 3 := by
    have := (List.getElem?_eq_some_iff.1 hv).1; rwa [row3_length] at this
  rw [row3_get n F W K j hj] at hv
  cases hv
  have hadd : (⟨b, off, none⟩ : Addr).add j = ⟨b, off + j, none⟩ := by unfold Addr.add; split <;> simp_all
  rw [hadd]
  obtain ⟨c0, c1, c2⟩ := hc (j / 3) (by omega)
  rcases (show j % 3 = 0 ∨ j % 3 = 1 ∨ j % 3 = 2 by omega) with e | e | e
  · have ej : j = j / 3 * 3 := by omega
    rw [ej, cell3_0]; exact c0
  · have ej : j = j / 3 * 3 + 1 := by omega
    rw [ej, cell3_1]; exact c1
  · have ej : j = j / 3 * 3 + 2 := by omega
    rw [ej, cell3_2]; exact c2

set_option maxHeartbeats 4000000 in
theorem rnew_any (c : Cf) (hc : c.ok) (a : Option Addr) (cap : Nat) (ep : Int) (w : World) (h : TS w a c.n c.F c.W c.K) :
    Calls Tryz.prog 16 #[.agg #[.int .i64 c.s, .int .i64 c.le, .int .i64 c.la, .int .i64 c.wi, .int .i64 c.ke, .int .i64 c.qu, .slice a c.n cap], .int .i64 ep] w fun e w' => ∃ p tv, e = .returned (.pointer (some ⟨p, 0, none⟩)) ∧ RefAt w.heap.size w' p ⟨c, 0, [], [], [], [], ep, 0⟩ tv (.slice none 0 0) (.slice none 0 0) (.slice none 0 0) (.slice none 0 0) ∧ Below w.heap.size w w' := by
  have hmk := make_tiers_n c.n hc.n4
  go_enter Tryz.func16, Tryz.ntmps16
  go_wp2_with fail
  obtain ⟨y0, y1, y2, hbw, yz⟩ := box3 w (.cells #[.int .i64 c.s, .int .i64 c.le, .int .i64 c.la, .int .i64 c.wi, .int .i64 c.ke, .int .i64 c.qu, .slice a c.n cap] 35) (.cells #[.int .i64 c.s, .int .i64 c.le, .int .i64 c.la, .int .i64 c.wi, .int .i64 c.ke, .int .i64 c.qu, .slice (some ⟨w.heap.size + 1 + 1, 0, none⟩) c.n c.n, .int .i64 0, .slice none 0 0, .slice none 0 0, .slice none 0 0, .slice none 0 0, .int .i64 ep, .int .i64 0] 83) (.cells (madeTiers c.n) 32)
  generalize (((w.alloc (.cells #[.int .i64 c.s, .int .i64 c.le, .int .i64 c.la, .int .i64 c.wi, .int .i64 c.ke, .int .i64 c.qu, .slice a c.n cap] 35)).alloc (.cells #[.int .i64 c.s, .int .i64 c.le, .int .i64 c.la, .int .i64 c.wi, .int .i64 c.ke, .int .i64 c.qu, .slice (some ⟨w.heap.size + 1 + 1, 0, none⟩) c.n c.n, .int .i64 0, .slice none 0 0, .slice none 0 0, .slice none 0 0, .slice none 0 0, .int .i64 ep, .int .i64 0] 83)).alloc (.cells (madeTiers c.n) 32)) = X at *
  have hts := h.below hbw
  obtain ⟨w4, hcp, HR, HB4⟩ : ∃ w4, (Builtin.copy_ #[33, 33] 3 #[.slice (some ⟨w.heap.size + 1 + 1, 0, none⟩) c.n c.n, .slice a c.n cap]).run Tryz.prog X.drew = .ok (.int .i64 c.n) w4 ∧
      Hid (w4.heap[w.heap.size + 1 + 1]? = some (.cells (row3 c.n c.F c.W c.K).toArray 32 (0, 0))) ∧ Hid (Below (w.heap.size + 2) X w4) := by
    have hg : X.drew.heap[w.heap.size + 1 + 1]? = some (.cells (madeTiers c.n) 32 (0, 0)) := y2
    have hts' : TS X.drew a c.n c.F c.W c.K := hts
    have hr := run_copy_wide (P := Tryz.prog) X.drew 33 33 3 32 3 (w.heap.size + 1 + 1) c.n c.n a c.n cap (madeTiers c.n) 32 (row3 c.n c.F c.W c.K) Tryz.underlying33 (by kernel_rfl) hg
      (by rw [row3_length]; simp) (tsCells hts') (by rw [row3_length, size_madeTiers]; omega) (row3_one c.n c.F c.W c.K)
    have hm : Nat.min c.n c.n = c.n := by simp
    have hd : (row3 c.n c.F c.W c.K ++ (madeTiers c.n).toList.drop (row3 c.n c.F c.W c.K).length).toArray = (row3 c.n c.F c.W c.K).toArray := by
      rw [List.drop_eq_nil_of_le (by rw [row3_length]; simp [size_madeTiers]), List.append_nil]
    rw [hm, hd] at hr
    exact ⟨_, hr, setRow_heap _ _ _ _ _ _ hg, below_setRow ((Below.refl _ _).drew) (Nat.le_refl _) _⟩
  have p6 : X.cell? ⟨w.heap.size + 1, 6, none⟩ = some (.slice (some ⟨w.heap.size + 1 + 1, 0, none⟩) c.n c.n) := by rw [rcell y1]; rfl
  have q6 : X.cell? ⟨w.heap.size, 6, none⟩ = some (.slice a c.n cap) := by rw [rcell y0]; rfl
  have Y1 := hide y1
  have YZ := hide yz
  have HBW := hide hbw
  clear y0 y1 y2 yz hbw hts hmk h
  go_region
  go_wp2_with fail
  go_ret
  have hh := ((unhide HB4).block (w.heap.size + 1) (by omega)).trans (unhide Y1)
  refine ⟨_, _, rfl, ⟨hh, by omega, ⟨row3_length _ _ _ _, .inr ⟨_, _, _, rfl, by omega, unhide HR, ?_⟩⟩, World.ownsRow_nil _ _ _ _, World.ownsRow_nil _ _ _ _, World.ownsRow_nil _ _ _ _, World.ownsRow_nil _ _ _ _⟩, (unhide HBW).trans ((unhide HB4).mono (by omega))⟩
  refine ⟨Nat.le_refl _, by have := hc.n4; simp only [maxLen]; omega, by simp [row3_length], ?_⟩
  show List.take (c.n * 3) (row3 c.n c.F c.W c.K) = row3 c.n c.F c.W c.K
  exact List.take_of_length_le (by rw [row3_length]; omega)
end Go.Proofs.YtgadceofpbfleaaGreat
