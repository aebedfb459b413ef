import Derived.RangeFuncNested
import Derived.RangeFuncBound
import Derived.RangeFuncCalls
import Derived.RangeFuncLeaves
import Derived.Test.YtpbimdkclnekeaaGreatQDisk0
import Derived.StillTail
import Derived.StillTactics
import Derived.OrdersIn
import Derived.TacticsIn
import Derived.Test.YtpbimdkclnekeaaGreatQDisk1
import Derived.Deep.WholeRow
import Derived.Test.YtpbimdkclnekeaaGreatQConf1
import Derived.ProofKit
import Derived.OpenShut
import Derived.Deep.Slices
import Derived.Deep.Strs
import Derived.SizedLaws

namespace Go.Proofs.YtpbimdkclnekeaaGreat
open Go.RowKit
set_option linter.unusedVariables false

/-- the contract of an iterator that may have loops of its own. -/
def SeqO {α : Type} (F : Fence) (n : Nat) (P : Program) (g : Nat) (lb : Array Value) (encs : α → Array Value) (Kp : World → World → Prop) (S Sp : List α → Prop) (N m : Nat) (w : World) : Prop :=
  ∀ (l : Nat) (J Jx : List α → World → Prop) (W : World), Below w.heap.size w W → m ≤ W.heap.size → OwnFrom W.heap.size J → OwnFrom W.heap.size Jx →
    (∀ pre x V, J pre V → pre.length < N → YieldAt F (n - 1) P l (encs x) V fun e V' => (e = .returned (.bool true) ∧ J (pre ++ [x]) V' ∧ Kp V V') ∨ (e = .returned (.bool false) ∧ Jx (pre ++ [x]) V' ∧ Kp V V')) →
    J [] W → CallsIn F n P g (#[.func (.yield l) #[] #[]] ++ lb) W fun e V => (∃ v, e = .returned v) ∧ ((∃ xs, S xs ∧ J xs V) ∨ ∃ pre, Sp pre ∧ Jx pre V)

theorem own_abides {β : Type} {B : Nat} {J : β → World → Prop} (h : OwnFrom B J) : AbidesFrom B J := fun s W W' row hs hg hr =>
  h s W W' row hs hg (fun r e => by obtain ⟨h1, o, h2, h3⟩ := hr r e; exact ⟨h1, o, h2, Obj.not_cells_of_walk h3⟩)
theorem SeqO.of {α : Type} {F : Fence} {n : Nat} {P : Program} {g : Nat} {lb : Array Value} {encs : α → Array Value} {Kp : World → World → Prop} {S Sp : List α → Prop} {N m : Nat} {w : World} (h : SeqStopsK F n P g lb encs Kp S Sp N w) : SeqO F n P g lb encs Kp S Sp N m w :=
  fun l J Jx W hW _ hJ hJx hY h0 => h l J Jx W hW (own_abides hJ) (own_abides hJx) (fun pre x V hv hl => (hY pre x V hv hl).mono fun e V' hh => hh.imp id (fun ⟨a, b, _⟩ => ⟨a, b⟩)) h0
theorem SeqO.keeps {α : Type} {F : Fence} {n : Nat} {P : Program} {g : Nat} {lb : Array Value} {encs : α → Array Value} {Kp Kq : World → World → Prop} {S Sp : List α → Prop} {N m : Nat} {w : World} (h : SeqO F n P g lb encs Kp S Sp N m w) (hk : ∀ A B, Kq A B → Kp A B) : SeqO F n P g lb encs Kq S Sp N m w :=
  fun l J Jx W hW hm hJ hJx hY h0 => h l J Jx W hW hm hJ hJx (fun pre x V hv hl => (hY pre x V hv hl).mono fun e V' hh => hh.imp (fun ⟨a, b, c⟩ => ⟨a, b, hk _ _ c⟩) (fun ⟨a, b, c⟩ => ⟨a, b, hk _ _ c⟩)) h0
theorem SeqO.inRound {α : Type} {F : Fence} {n : Nat} {P : Program} {g : Nat} {lb : Array Value} {encs : α → Array Value} {Kp : World → World → Prop} {S Sp : List α → Prop} {N m : Nat} {w : World} (l : Nat) (h : SeqO F n P g lb encs Kp S Sp N m w) : SeqO (F.inRound l) n P g lb encs Kp S Sp N m w := h

/-- what a body owes at its ways out. -/
def ownPostX {α : Type} (B : Nat) (Kp : World → World → Prop) (I : List α → World → Prop) (Ix : Code → List α → World → Prop) (xs : List α) (W : World) (e : Exit) (_ : Act) (W' : World) : Prop :=
  KeepsFrom B W W' ∧ Kp W W' ∧ match e with
  | .normal => I xs W'
  | .ret => Ix .ret xs W'
  | .exit id => Ix (.exit id) xs W'
  | .goto t => Ix (.goto t) xs W'
  | .panic _ => False
  | .outgrown => False

/-- a row's turn beyond all that is spoken of. -/
theorem grown_at {W W' : World} {row : Option Nat} {B k : Nat} {o : Obj} (hg : W.grownBy W' row) (hr : ∀ r, row = some r → B ≤ r) (hk : k < B) (h : W.heap[k]? = some o) : W'.heap[k]? = some o :=
  (hg.block k (lt_of_heap h) (fun e => by have := hr k e.symm; omega)).trans h

section
variable {α : Type} {F : Fence} {n : Nat} {P : Program} {ps : Array Tmp} {assign body : Code} {encs : α → Array Value} {Kp : World → World → Prop} {N : Nat}

/-- one round of a loop whose record lies at l. -/
theorem round_O (B l fn df : Nat) (tmps : Array Value) (hF : F.fn fn) (hBl : B ≤ l) (hps : ∀ x, (encs x).size = ps.size) (E : World → Prop) (hE : ∀ W W', E W → KeepsFrom B W W' → E W') (hEl : ∀ W o, E W → E (W.putObj l o))
    (hKt : ∀ {X Y Z : World}, Kp X Y → Kp Y Z → Kp X Z) (hKb : ∀ (W : World) (o o' : Obj), W.heap[l]? = some o → o.isCells = false → o.isWalk = false → Kp W (W.putObj l o'))
    (I : List α → World → Prop) (Ix : Code → List α → World → Prop) (hI : OwnFrom B I) (hIx : ∀ c, OwnFrom B (Ix c)) (Ax : α → Act → World → Prop) (hAx : ∀ x a', OwnFrom B (fun (_ : Unit) W => Ax x a' W))
    (hassign : ∀ (pre : List α) (x : α) (W : World) (K : Act → World → Prop), I pre W → (∀ a' W', KeepsFrom B W W' → Kp W W' → I pre W' → Ax x a' W' → K a' W') →
      assign.wpIn (F.inRound l) n P (Exit.then K (fun _ _ _ => False)) { tmps := (ps.zip (encs x)).foldl (fun t (p, v) => t.setIfInBounds p v) tmps, defers := [] } W)
    (hbody : ∀ (pre : List α) (x : α) (a' : Act) (W : World), (∃ r : Loop, W.heap[l]? = some (.loop r) ∧ r.defers = df) → I pre W → Ax x a' W → pre.length < N → body.wpIn (F.inRound l) n P (ownPostX B Kp I Ix (pre ++ [x]) W) a' W)
    (pre : List α) (x : α) (W : World) (hi : I pre W) (hl : W.heap[l]? = some (.loop { state := .ready, pending := none, fn, tmps, params := ps, assign, body, defers := df })) (he : E W) (hlen : pre.length < N) :
    YieldAt F n P l (encs x) W fun e V => (e = .returned (.bool true) ∧ (I (pre ++ [x]) V ∧ V.heap[l]? = some (.loop { state := .ready, pending := none, fn, tmps, params := ps, assign, body, defers := df }) ∧ E V) ∧ Kp W V) ∨
      (e = .returned (.bool false) ∧ (∃ c, Ix c (pre ++ [x]) V ∧ V.heap[l]? = some (.loop { state := .done, pending := some c, fn, tmps, params := ps, assign, body, defers := df }) ∧ E V) ∧ Kp W V) := by
  refine ⟨fn, _, assign, body, run_yield (P := P) (args := encs x) hl (hps x), roundIn_of_wpIn hF (hassign pre x W _ hi fun a' X hkX hpX hiX haX => ?_)⟩
  have hlX := hkX.same l _ hBl hl rfl
  have heX := hE _ _ he hkX
  refine ⟨_, run_beginRound hlX rfl, wpIn_mono (hbody pre x a' _ ⟨_, World.putObj_heap_same (lt_of_heap hlX), rfl⟩ (hI.putObj _ hiX hBl hlX rfl) ((hAx x a').putObj (s := ()) _ haX hBl hlX rfl) hlen) ?_⟩
  have hb := World.putObj_heap_same (o := .loop { state := .busy, pending := none, fn, tmps, params := ps, assign, body, defers := df }) (lt_of_heap hlX)
  have hend : ∀ V, KeepsFrom B (X.putObj l (.loop { state := .busy, pending := none, fn, tmps, params := ps, assign, body, defers := df })) V → V.heap[l]? = some (.loop { state := .busy, pending := none, fn, tmps, params := ps, assign, body, defers := df }) ∧ E V :=
    fun V hV => ⟨hV.same l _ hBl hb rfl, hE _ _ (hEl _ _ heX) hV⟩
  have leave : ∀ c V, KeepsFrom B (X.putObj l (.loop { state := .busy, pending := none, fn, tmps, params := ps, assign, body, defers := df })) V → Ix c (pre ++ [x]) V →
      Ix c (pre ++ [x]) (V.putObj l (.loop { state := .done, pending := some c, fn, tmps, params := ps, assign, body, defers := df })) ∧ (V.putObj l (.loop { state := .done, pending := some c, fn, tmps, params := ps, assign, body, defers := df })).heap[l]? = some (.loop { state := .done, pending := some c, fn, tmps, params := ps, assign, body, defers := df }) ∧ E (V.putObj l (.loop { state := .done, pending := some c, fn, tmps, params := ps, assign, body, defers := df })) := fun c V hV hx => by
    obtain ⟨h1, h2⟩ := hend V hV
    exact ⟨(hIx c).putObj _ hx hBl h1 rfl, World.putObj_heap_same (lt_of_heap h1), hEl _ _ h2⟩
  have kp : ∀ V o', Kp (X.putObj l (.loop { state := .busy, pending := none, fn, tmps, params := ps, assign, body, defers := df })) V → V.heap[l]? = some (.loop { state := .busy, pending := none, fn, tmps, params := ps, assign, body, defers := df }) → Kp W (V.putObj l o') := fun V o' hKV h1 => hKt hpX (hKt (hKt (hKb _ _ _ hlX rfl rfl) hKV) (hKb _ _ _ h1 rfl rfl))
  intro e a3 V hp
  match e, hp with
  | .normal, ⟨hV, hKV, hiV⟩ =>
    obtain ⟨h1, h2⟩ := hend V hV
    exact ⟨_, _, run_endRound (P := P) none h1, .inl ⟨rfl, ⟨hI.putObj _ hiV hBl h1 rfl, World.putObj_heap_same (lt_of_heap h1), hEl _ _ h2⟩, kp V _ hKV h1⟩⟩
  | .ret, ⟨hV, hKV, hx⟩ => exact ⟨_, _, run_endRound (P := P) (some .ret) (hend V hV).1, .inr ⟨rfl, ⟨.ret, leave .ret V hV hx⟩, kp V _ hKV (hend V hV).1⟩⟩
  | .exit id, ⟨hV, hKV, hx⟩ => exact ⟨_, _, run_endRound (P := P) (some (.exit id)) (hend V hV).1, .inr ⟨rfl, ⟨.exit id, leave (.exit id) V hV hx⟩, kp V _ hKV (hend V hV).1⟩⟩
  | .goto t, ⟨hV, hKV, hx⟩ => exact ⟨_, _, run_endRound (P := P) (some (.goto t)) (hend V hV).1, .inr ⟨rfl, ⟨.goto t, leave (.goto t) V hV hx⟩, kp V _ hKV (hend V hV).1⟩⟩
  | .panic ch, hp => exact hp.2.2.elim
  | .outgrown, hp => exact hp.2.2.elim
end

section
variable {α : Type} {F : Fence} {n : Nat} {P : Program} {g : Operand} {ps : Array Tmp} {assign body : Code} {Q : Exit → Act → World → Prop} {a : Act} {w : World}

/-- a loop over such an iterator, in no round. -/
theorem range_O (hro : F.round = none) (h1 : 1 ≤ n) {gf : Nat} {lb : Array Value} (hg : a.eval g = .func (.func gf) #[] lb) (hFg : F.fn gf) (eg : ∀ args w, (callFunc gf args).run P w = .ok (.enter gf args) w)
    {encs : α → Array Value} {Kp : World → World → Prop} {S Sp : List α → Prop} {N m : Nat} {w0 : World} (hseq : SeqO F (n - 1) P gf lb encs Kp S Sp N m w0) (hm : m ≤ w.heap.size + 2)
    (hKt : ∀ {X Y Z : World}, Kp X Y → Kp Y Z → Kp X Z) (hKb : ∀ (W : World) (o o' : Obj), W.heap[w.heap.size + 1]? = some o → o.isCells = false → o.isWalk = false → Kp W (W.putObj (w.heap.size + 1) o')) (hb0 : Below w0.heap.size w0 w) (hps : ∀ x, (encs x).size = ps.size)
    (I : List α → World → Prop) (Ix : Code → List α → World → Prop) (hI : OwnFrom w.heap.size I) (hIx : ∀ c, OwnFrom w.heap.size (Ix c)) (h0 : I [] w) (Ax : α → Act → World → Prop) (hAx : ∀ x a', OwnFrom w.heap.size (fun (_ : Unit) W => Ax x a' W))
    (hassign : ∀ (l : Nat) (pre : List α) (x : α) (W : World) (K : Act → World → Prop), I pre W → (∀ a' W', KeepsFrom w.heap.size W W' → Kp W W' → I pre W' → Ax x a' W' → K a' W') →
      assign.wpIn (F.inRound l) (n - 1 - 1) P (Exit.then K (fun _ _ _ => False)) { tmps := (ps.zip (encs x)).foldl (fun t (p, v) => t.setIfInBounds p v) a.tmps, defers := [] } W)
    (hbody : ∀ (l : Nat) (pre : List α) (x : α) (a' : Act) (W : World), w.heap.size ≤ l → (∃ r, W.heap[l]? = some (.loop r)) → I pre W → Ax x a' W → pre.length < N → body.wpIn (F.inRound l) (n - 1 - 1) P (ownPostX w.heap.size Kp I Ix (pre ++ [x]) W) a' W)
    (hdone : ∀ (D : Nat) (xs : List α) (W : World), w.heap.size ≤ D → S xs → I xs W → W.heap[D]? = some (.deferred (some [])) → Q .normal { a with defers := { target := .collected D, args := #[] } :: a.defers } W)
    (hstop : ∀ (D : Nat) (c : Code) (pre : List α) (W : World), w.heap.size ≤ D → Sp pre → Ix c pre W → W.heap[D]? = some (.deferred (some [])) → c.wpIn F n P Q { a with defers := { target := .collected D, args := #[] } :: a.defers } W) :
    (Code.rangeFunc g ps assign body).wpIn F n P Q a w := by
  refine wpIn_rangeFunc fun fn hfn => ?_
  rw [hro]
  have hz : ((w.alloc (.deferred (some []))).alloc (.loop { state := .ready, pending := none, fn, tmps := a.tmps, params := ps, assign, body, defers := w.heap.size })).heap.size = w.heap.size + 2 := by simp
  refine ⟨w.heap.size + 1, [{ target := .collected w.heap.size, args := #[] }], ((w.alloc (.deferred (some []))).alloc (.loop { state := .ready, pending := none, fn, tmps := a.tmps, params := ps, assign, body, defers := w.heap.size })), { target := .fn (.func gf) lb, args := #[.func (.yield (w.heap.size + 1)) #[] #[]] }, ((w.alloc (.deferred (some []))).alloc (.loop { state := .ready, pending := none, fn, tmps := a.tmps, params := ps, assign, body, defers := w.heap.size })), gf, #[.func (.yield (w.heap.size + 1)) #[] #[]] ++ lb, ((w.alloc (.deferred (some []))).alloc (.loop { state := .ready, pending := none, fn, tmps := a.tmps, params := ps, assign, body, defers := w.heap.size })), run_enterLoop_outer fn a.tmps ps assign body, by simp only [resolve, hg]; simp [go_sem], fun f' hf' => by simp [Target.leads] at hf'; subst hf'; exact hFg, by simp [invoke, go_sem, eg], fun _ => h1, ?_⟩
  have hD : ((w.alloc (.deferred (some []))).alloc (.loop { state := .ready, pending := none, fn, tmps := a.tmps, params := ps, assign, body, defers := w.heap.size })).heap[w.heap.size]? = some (.deferred (some [])) := (Below.heap_alloc _ _ _ (by simp)).trans (World.alloc_heap_new w _)
  have hL : ((w.alloc (.deferred (some []))).alloc (.loop { state := .ready, pending := none, fn, tmps := a.tmps, params := ps, assign, body, defers := w.heap.size })).heap[w.heap.size + 1]? = some (.loop { state := .ready, pending := none, fn, tmps := a.tmps, params := ps, assign, body, defers := w.heap.size }) := by
    have := World.alloc_heap_new (w.alloc (.deferred (some []))) (.loop { state := .ready, pending := none, fn, tmps := a.tmps, params := ps, assign, body, defers := w.heap.size }); rwa [World.size_alloc] at this
  have hB : Below w0.heap.size w0 ((w.alloc (.deferred (some []))).alloc (.loop { state := .ready, pending := none, fn, tmps := a.tmps, params := ps, assign, body, defers := w.heap.size })) := hb0.trans ((((Below.refl _ w).alloc (Nat.le_refl _) _).alloc (by simp) _).mono hb0.size)
  have hI0 := hI.alloc (.loop { state := .ready, pending := none, fn, tmps := a.tmps, params := ps, assign, body, defers := w.heap.size }) (hI.alloc (.deferred (some [])) h0)
  generalize ((w.alloc (.deferred (some []))).alloc (.loop { state := .ready, pending := none, fn, tmps := a.tmps, params := ps, assign, body, defers := w.heap.size })) = W1 at *
  refine (hseq (w.heap.size + 1)
    (fun pre W => I pre W ∧ W.heap[w.heap.size + 1]? = some (.loop { state := .ready, pending := none, fn, tmps := a.tmps, params := ps, assign, body, defers := w.heap.size }) ∧ W.heap[w.heap.size]? = some (.deferred (some [])))
    (fun pre W => ∃ c, Ix c pre W ∧ W.heap[w.heap.size + 1]? = some (.loop { state := .done, pending := some c, fn, tmps := a.tmps, params := ps, assign, body, defers := w.heap.size }) ∧ W.heap[w.heap.size]? = some (.deferred (some [])))
    W1 hB (by omega) (fun s X Y row hs hgr hr => ⟨hI s X Y row hs.1 hgr (fun r e => ⟨by have := (hr r e).1; omega, (hr r e).2⟩), grown_at hgr (fun r e => (hr r e).1) (by omega) hs.2.1, grown_at hgr (fun r e => (hr r e).1) (by omega) hs.2.2⟩)
    (fun s X Y row hs hgr hr => by
      obtain ⟨c, k1, k2, k3⟩ := hs
      exact ⟨c, hIx c s X Y row k1 hgr (fun r e => ⟨by have := (hr r e).1; omega, (hr r e).2⟩), grown_at hgr (fun r e => (hr r e).1) (by omega) k2, grown_at hgr (fun r e => (hr r e).1) (by omega) k3⟩)
    (fun pre x V hv hlen => ?_) ⟨hI0, hL, hD⟩).mono ?_
  · obtain ⟨v1, v2, v3⟩ := hv
    exact round_O (P := P) (Kp := Kp) (n := n - 1 - 1) w.heap.size (w.heap.size + 1) fn w.heap.size a.tmps hfn (by omega) hps (fun W => W.heap[w.heap.size]? = some (.deferred (some []))) (fun W W' he hk => hk.same _ _ (Nat.le_refl _) he rfl) (fun W o he => (World.putObj_heap_other (by omega)).trans he)
      (fun h k => hKt h k) (fun W o o' => hKb W o o') I Ix hI hIx Ax hAx (fun pre x W K => hassign _ pre x W K) (fun pre x a' W ⟨r, hr, _⟩ => hbody _ pre x a' W (by omega) ⟨r, hr⟩) pre x V v1 v2 v3 hlen
  · rintro e V ⟨⟨v, rfl⟩, (⟨xs, hS, k1, k2, k3⟩ | ⟨pre, hS, c, k1, k2, k3⟩)⟩
    · exact ⟨none, _, run_endLoop (P := P) k2 (by simp), hdone _ xs _ (Nat.le_refl _) hS (hI.putObj _ k1 (by omega) k2 rfl) ((World.putObj_heap_other (by omega)).trans k3)⟩
    · exact ⟨some c, _, run_endLoop (P := P) k2 (by simp), hstop _ c pre _ (Nat.le_refl _) hS ((hIx c).putObj _ k1 (by omega) k2 rfl) ((World.putObj_heap_other (by omega)).trans k3)⟩

/-- .. within a round of loop l₀. -/
theorem rangeN_O {l₀ : Nat} {r₀ : Loop} (hro : F.round = some l₀) (hl₀ : w.heap[l₀]? = some (.loop r₀)) (h1 : 1 ≤ n) {gf : Nat} {lb : Array Value} (hg : a.eval g = .func (.func gf) #[] lb) (hFg : F.fn gf) (eg : ∀ args w, (callFunc gf args).run P w = .ok (.enter gf args) w)
    {encs : α → Array Value} {Kp : World → World → Prop} {S Sp : List α → Prop} {N m : Nat} {w0 : World} (hseq : SeqO F (n - 1) P gf lb encs Kp S Sp N m w0) (hm : m ≤ w.heap.size + 1)
    (hKt : ∀ {X Y Z : World}, Kp X Y → Kp Y Z → Kp X Z) (hKb : ∀ (W : World) (o o' : Obj), W.heap[w.heap.size]? = some o → o.isCells = false → o.isWalk = false → Kp W (W.putObj w.heap.size o')) (hb0 : Below w0.heap.size w0 w) (hps : ∀ x, (encs x).size = ps.size)
    (I : List α → World → Prop) (Ix : Code → List α → World → Prop) (hI : OwnFrom w.heap.size I) (hIx : ∀ c, OwnFrom w.heap.size (Ix c)) (h0 : I [] w) (Ax : α → Act → World → Prop) (hAx : ∀ x a', OwnFrom w.heap.size (fun (_ : Unit) W => Ax x a' W))
    (hassign : ∀ (l : Nat) (pre : List α) (x : α) (W : World) (K : Act → World → Prop), I pre W → (∀ a' W', KeepsFrom w.heap.size W W' → Kp W W' → I pre W' → Ax x a' W' → K a' W') →
      assign.wpIn (F.inRound l) (n - 1 - 1) P (Exit.then K (fun _ _ _ => False)) { tmps := (ps.zip (encs x)).foldl (fun t (p, v) => t.setIfInBounds p v) a.tmps, defers := [] } W)
    (hbody : ∀ (l : Nat) (pre : List α) (x : α) (a' : Act) (W : World), w.heap.size ≤ l → (∃ r, W.heap[l]? = some (.loop r)) → I pre W → Ax x a' W → pre.length < N → body.wpIn (F.inRound l) (n - 1 - 1) P (ownPostX w.heap.size Kp I Ix (pre ++ [x]) W) a' W)
    (hdone : ∀ (xs : List α) (W : World), S xs → I xs W → Q .normal a W)
    (hstop : ∀ (c : Code) (pre : List α) (W : World), Sp pre → Ix c pre W → c.wpIn F n P Q a W) :
    (Code.rangeFunc g ps assign body).wpIn F n P Q a w := by
  refine wpIn_rangeFunc fun fn hfn => ?_
  rw [hro]
  have hz : (w.alloc (.loop { state := .ready, pending := none, fn, tmps := a.tmps, params := ps, assign, body, defers := r₀.defers })).heap.size = w.heap.size + 1 := by simp
  refine ⟨w.heap.size, [], (w.alloc (.loop { state := .ready, pending := none, fn, tmps := a.tmps, params := ps, assign, body, defers := r₀.defers })), { target := .fn (.func gf) lb, args := #[.func (.yield w.heap.size) #[] #[]] }, (w.alloc (.loop { state := .ready, pending := none, fn, tmps := a.tmps, params := ps, assign, body, defers := r₀.defers })), gf, #[.func (.yield w.heap.size) #[] #[]] ++ lb, (w.alloc (.loop { state := .ready, pending := none, fn, tmps := a.tmps, params := ps, assign, body, defers := r₀.defers })), run_enterLoop_inner hl₀ fn a.tmps ps assign body, by simp only [resolve, hg]; simp [go_sem], fun f' hf' => by simp [Target.leads] at hf'; subst hf'; exact hFg, by simp [invoke, go_sem, eg], fun _ => h1, ?_⟩
  have hL : (w.alloc (.loop { state := .ready, pending := none, fn, tmps := a.tmps, params := ps, assign, body, defers := r₀.defers })).heap[w.heap.size]? = some (.loop { state := .ready, pending := none, fn, tmps := a.tmps, params := ps, assign, body, defers := r₀.defers }) := World.alloc_heap_new w _
  have hB : Below w0.heap.size w0 (w.alloc (.loop { state := .ready, pending := none, fn, tmps := a.tmps, params := ps, assign, body, defers := r₀.defers })) := hb0.trans (((Below.refl _ w).alloc (Nat.le_refl _) _).mono hb0.size)
  have hI0 := hI.alloc (.loop { state := .ready, pending := none, fn, tmps := a.tmps, params := ps, assign, body, defers := r₀.defers }) h0
  generalize (w.alloc (.loop { state := .ready, pending := none, fn, tmps := a.tmps, params := ps, assign, body, defers := r₀.defers })) = W1 at *
  refine (hseq w.heap.size
    (fun pre W => I pre W ∧ W.heap[w.heap.size]? = some (.loop { state := .ready, pending := none, fn, tmps := a.tmps, params := ps, assign, body, defers := r₀.defers }))
    (fun pre W => ∃ c, Ix c pre W ∧ W.heap[w.heap.size]? = some (.loop { state := .done, pending := some c, fn, tmps := a.tmps, params := ps, assign, body, defers := r₀.defers }))
    W1 hB (by omega) (fun s X Y row hs hgr hr => ⟨hI s X Y row hs.1 hgr (fun r e => ⟨by have := (hr r e).1; omega, (hr r e).2⟩), grown_at hgr (fun r e => (hr r e).1) (by omega) hs.2⟩)
    (fun s X Y row hs hgr hr => by
      obtain ⟨c, k1, k2⟩ := hs
      exact ⟨c, hIx c s X Y row k1 hgr (fun r e => ⟨by have := (hr r e).1; omega, (hr r e).2⟩), grown_at hgr (fun r e => (hr r e).1) (by omega) k2⟩)
    (fun pre x V hv hlen => ?_) ⟨hI0, hL⟩).mono ?_
  · obtain ⟨v1, v2⟩ := hv
    refine (round_O (P := P) (Kp := Kp) (n := n - 1 - 1) w.heap.size w.heap.size fn r₀.defers a.tmps hfn (Nat.le_refl _) hps (fun _ => True) (fun _ _ _ _ => trivial) (fun _ _ _ => trivial)
      (fun h k => hKt h k) (fun W o o' => hKb W o o') I Ix hI hIx Ax hAx (fun pre x W K => hassign _ pre x W K) (fun pre x a' W ⟨r, hr, _⟩ => hbody _ pre x a' W (Nat.le_refl _) ⟨r, hr⟩) pre x V v1 v2 trivial hlen).mono ?_
    rintro e V' (⟨e1, ⟨k1, k2, _⟩, k3⟩ | ⟨e1, ⟨c, k1, k2, _⟩, k3⟩)
    · exact .inl ⟨e1, ⟨k1, k2⟩, k3⟩
    · exact .inr ⟨e1, ⟨c, k1, k2⟩, k3⟩
  · rintro e V ⟨⟨v, rfl⟩, (⟨xs, hS, k1, k2⟩ | ⟨pre, hS, c, k1, k2⟩)⟩
    · exact ⟨none, _, run_endLoop (P := P) k2 (by simp), hdone xs _ hS (hI.putObj _ k1 (Nat.le_refl _) k2 rfl)⟩
    · exact ⟨some c, _, run_endLoop (P := P) k2 (by simp), hstop c pre _ hS ((hIx c).putObj _ k1 (Nat.le_refl _) k2 rfl)⟩
end

/-- where no depth is asked, a round may be come to from however deep. -/
theorem yield_deep {F : Fence} (hd : F.depth = none) {m m' : Nat} {P : Program} {l : Nat} {args : Array Value} {W : World} {R : Ending → World → Prop} (h : YieldAt F m P l args W R) : YieldAt F m' P l args W R := by
  obtain ⟨fn, tmps, assign, body, hy, h1, h2⟩ := h
  exact ⟨fn, tmps, assign, body, hy, h1, fun c cs _ => h2 c cs (fun d e => by rw [hd] at e; cases e)⟩

/-- what rounds keep: all below n but what ex names; all from m on; the walks. -/
structure KX (ex : Nat → Prop) (n m : Nat) (A B : World) : Prop where
  kept : Kept (fun k => ex k ∨ n ≤ k) A B
  walk : ∀ k o, ¬ ex k → A.heap[k]? = some o → o.isWalk = true → B.heap[k]? = some o
  high : ∀ k o, m ≤ k → A.heap[k]? = some o → B.heap[k]? = some o
section
variable {ex : Nat → Prop} {n m : Nat}
theorem KX.refl (ex : Nat → Prop) (n m : Nat) (A : World) : KX ex n m A A := ⟨Kept.refl _ _, fun _ _ _ h _ => h, fun _ _ _ h => h⟩
theorem KX.trans {A B C : World} (h : KX ex n m A B) (k : KX ex n m B C) : KX ex n m A C := ⟨h.kept.trans k.kept (fun _ _ h => h), fun i o hx hi ho => k.walk i o hx (h.walk i o hx hi ho) ho, fun i o hx hi => k.high i o hx (h.high i o hx hi)⟩
theorem KX.putObj {W : World} {l : Nat} {o : Obj} (o' : Obj) (hl : n ≤ l) (hm : l < m) (h : W.heap[l]? = some o) (ho : o.isWalk = false) : KX ex n m W (W.putObj l o') :=
  ⟨(Kept.refl _ _).grown (grownBy_putObj' W l o') (fun k e _ => by cases e; exact .inr hl), fun k p hx hk hp => by
    by_cases e : k = l
    · subst e; rw [h] at hk; cases hk; rw [ho] at hp; cases hp
    · exact (World.putObj_heap_other e).trans hk, fun k p hx hk => (World.putObj_heap_other (show k ≠ l by omega)).trans hk⟩
theorem KX.of_below {A B : World} (h : Below A.heap.size A B) : KX ex n m A B := ⟨Kept.of_below h, fun k o _ hk _ => (h.block k (lt_of_heap hk)).trans hk, fun k o _ hk => (h.block k (lt_of_heap hk)).trans hk⟩
theorem KX.setCell {W : World} {g i : Nat} {v : Value} (hn : n ≤ g) (hm : g < m) : KX ex n m W (W.setCell ⟨g, i, none⟩ v) :=
  ⟨(Kept.refl _ _).setCell (p := ⟨g, i, none⟩) (fun _ => .inr hn) v, fun k o _ hk ho => (KeepsOthers.setCell W ⟨g, i, none⟩ v).same k o hk (Obj.not_cells_of_walk ho), fun k o hx hk => (Below.heap_setCell _ _ _ _ (show k ≠ g by omega)).trans hk⟩
theorem KX.wider {m' : Nat} {A B : World} (h : KX ex n m A B) (hm : m ≤ m') : KX ex n m' A B := ⟨h.kept, h.walk, fun k o hx => h.high k o (Nat.le_trans hm hx)⟩
theorem KX.own {q : Nat} {w : World} {β : Type} (hq : w.heap.size ≤ q) : OwnFrom q (fun (_ : β) W => KX ex n m w W) := fun s X Y row hs hg hr =>
  have hold : ∀ k o, w.heap[k]? = some o → X.heap[k]? = some o → Y.heap[k]? = some o := fun k o hk hX => (hg.block k (lt_of_heap hX) (fun e => by have := (hr k e.symm).1; have := lt_of_heap hk; omega)).trans hX
  ⟨hs.kept.trans (g := fun k => q ≤ k) ⟨hg.os, hg.tape, hg.output, hg.size, fun k hk hn => hg.block k hk (fun e => hn (hr k e.symm).1)⟩ (fun k hk e => by omega), fun k o hx hk ho => hold k o hk (hs.walk k o hx hk ho), fun k o hx hk => hold k o hk (hs.high k o hx hk)⟩
theorem KX.from {A B : World} (h : KX ex n m A B) {q : Nat} (hq : m ≤ q) : KeepsFrom q A B := ⟨h.kept.size, fun k o hk h0 _ => h.high k o (Nat.le_trans hq hk) h0⟩
theorem KX.low {A B : World} (h : KX ex n m A B) {k : Nat} (hk : k < n) (hx : ¬ ex k) (hl : k < A.heap.size) : B.heap[k]? = A.heap[k]? := h.kept.block k hl (fun e => e.elim hx (by omega))
end

/-- the contracts of an iterator, whatever lies ahead of the loop over it. -/
def SeqF {α : Type} (ex : Nat → Prop) (n : Nat) (P : Program) (g : Nat) (lb : Array Value) (encs : α → Array Value) (S : List α → Prop) (N : Nat) (w : World) : Prop :=
  ∀ m, w.heap.size ≤ m → SeqO Fence.wide 6 P g lb encs (KX ex n m) S (fun _ => True) N m w
end Go.Proofs.YtpbimdkclnekeaaGreat

namespace Go.Proofs.YtpbimdkclnekeaaGreat
open Go.RowKit
set_option linter.unusedVariables false

section
variable {P : Program} {ops : Array Oper} {md : Region.Mode} {w : World} {n : Nat} {l : Nat}

theorem still_not_defer {o : Oper} {a : Act} {K : Act → Prop} (h : o.still P a w K) : ∀ c, o.op ≠ .defer c := fun c hc => by
  unfold Oper.still execOp at h
  rw [hc] at h
  simp only [Oper.stillUpon] at h
  revert h
  generalize hr : (resolve a.eval c o.type).run P w = r
  cases r with
  | ok d w' => simp [hr]
  | halt x w' => simp [hr]
theorem wpIn_of_still {o : Oper} {a : Act} {K : Act → Prop} {K' : Act → World → Prop} {Q' : Exit → Act → World → Prop} (h : ∀ a, K a → K' a w) (hh : o.still P a w K) : o.wpIn (Fence.wide.inRound l) n P a w K' Q' := by
  have hnd := still_not_defer hh
  unfold Oper.still at hh
  unfold Oper.wpIn
  refine ⟨fun _ _ => trivial, ?_⟩
  rw [Oper.semAt_eq _ _ _ hnd]
  generalize (execOp a.eval o).run P w = r at *
  cases r with
  | ok k w' =>
    cases k <;> simp only [Oper.stillUpon] at hh <;> simp only [Oper.uponIn]
    case enter f args =>
      obtain ⟨rfl, v, hc, hn⟩ := hh
      exact ⟨fun e => by simp [Fence.inRound, Fence.wide] at e, (CallsIn.inRound l (callsIn_wide.2 hc)).mono fun e w'' ⟨he, hw⟩ => by subst he; subst hw; exact h _ hn⟩
    all_goals (obtain ⟨rfl, h2⟩ := hh; exact h _ h2)
  | halt x w' => simp only [Oper.stillUpon] at hh
theorem wpOpIn_of_st {i : Nat} {a : Act} {K : Act → Prop} {K' : Act → World → Prop} {Q' : Exit → Act → World → Prop} (h : ∀ a, K a → K' a w) (hh : stOp P ops w i K a) : wpOpIn (Fence.wide.inRound l) n P ops Q' i K' a w := by
  unfold stOp at hh
  unfold wpOpIn
  split
  · rename_i ho; simp only [ho] at hh; exact h _ hh
  · rename_i o ho
    simp only [ho] at hh
    split
    · rename_i hw; simp only [hw, if_true] at hh; exact wpIn_of_still h hh
    · rename_i hw; simp only [hw] at hh; exact ⟨fun _ _ => trivial, h _ hh⟩
theorem anyIn_of_head {k g : Nat} {L : Array Bool → Act → Prop} {Q' : Exit → Act → World → Prop} (hL : ∀ listed a, L listed a → wpAnyIn (Fence.wide.inRound l) n P md ops Q' g listed a w) :
    ∀ (f : Nat) (listed : Array Bool) (a : Act), wpAnyL P md ops w k L f listed a → wpAnyIn (Fence.wide.inRound l) n P md ops Q' (f + g) listed a w
  | 0, listed, a, h => by rw [Nat.zero_add]; exact hL _ _ h
  | f + 1, listed, a, h => by
    rw [show f + 1 + g = (f + g) + 1 by omega]
    exact ⟨fun h0 => absurd h0 h.1, fun i hi => wpOpIn_of_st (fun a' h' => anyIn_of_head hL f _ a' h') (h.2 i hi).2⟩
theorem anyIn_of_seq {F : Fence} {Q' : Exit → Act → World → Prop} : ∀ (ls : List Oper) (k : Nat) (listed : Array Bool) (a : Act) (w : World), (∀ j, ls[j]? = ops[k + j]?) →
    Region.seqB md ops ls.length k listed = true → wpListIn F n P ops Q' ls a w → wpAnyIn F n P md ops Q' ls.length listed a w
  | [], _, _, _, _, _, hB, h => ⟨by simpa [Region.seqB] using hB, h⟩
  | o :: ls, k, listed, a, w, hl, hB, h => by
    have h0 : ops[k]? = some o := by simpa using (hl 0).symm
    simp only [List.length_cons, Region.seqB, Bool.and_eq_true, decide_eq_true_eq] at hB
    refine ⟨fun h1 => (by rw [hB.1] at h1; cases h1), fun i hi => ?_⟩
    rw [hB.1] at hi
    have hik : i = k := by simpa using hi
    subst hik
    have hw : wpOpIn F n P ops Q' i (wpListIn F n P ops Q' ls) a w := by unfold wpOpIn; simp only [h0]; exact h
    exact wpOpIn_mono (fun a' w' h' => anyIn_of_seq ls (i + 1) _ a' w' (fun j => by have := hl (j + 1); simpa [Nat.add_assoc, Nat.add_comm 1 j] using this) hB.2 h') hw
/-- in a round: k still operations, in whatever order, then the rest, one after another. -/
theorem region_tail_in {id : Nat} {Q : Exit → Act → World → Prop} {a : Act} {w : World} {ls : List Oper} (k : Nat) (hm : P.follows .mixedOrders = true) (hB : Region.lexTailB .any ls.toArray k = true)
    (h : wpStill P ls.toArray w.drew (fun a' => wpListIn (Fence.wide.inRound l) n P ls.toArray Q (ls.drop k) a' w.drew) (ls.take k) a) : (Code.region id ls.toArray true).wpIn (Fence.wide.inRound l) n P Q a w := by
  simp only [Region.lexTailB, Bool.and_eq_true, decide_eq_true_eq] at hB
  obtain ⟨⟨⟨⟨hsel, hn⟩, hs⟩, hc⟩, hlex⟩ := hB
  have hn' : k < ls.length := by simpa using hn
  have htl : (ls.take k).length = k := by simp; omega
  have hdl : (ls.drop k).length = ls.toArray.size - k := by simp
  have inv0 : HeadInv .any ls.toArray k (Array.replicate ls.toArray.size false) :=
    ⟨by simp, fun j oj _ hl => (by rw [getD_replicate_false] at hl; cases hl), fun t _ ht => getD_in (by simpa using ht) (getD_replicate_false _ _)⟩
  have H := wpAnyL_lex (md := .any) (g := ls.toArray.size - k) hsel hs hc hn (ls.take k) 0 _ a (fun j hj => by
    have hj' : j < k := by rw [htl] at hj; exact hj
    simp [hj']) (by simpa using htl) inv0 (by rw [htl]; exact hlex) h
  refine wpIn_region_any hm ?_
  have := anyIn_of_head (l := l) (n := n) (Q' := Q) (g := ls.toArray.size - k) (fun listed a' hL => by
    have := anyIn_of_seq (F := Fence.wide.inRound l) (n := n) (md := .any) (Q' := Q) (ls.drop k) k listed a' w.drew (fun j => by simp [List.getElem?_drop]) (by rw [hdl]; exact hL.1) hL.2
    rwa [hdl] at this) _ _ _ H
  rw [htl, show k + (ls.toArray.size - k) = ls.toArray.size by omega] at this
  exact this
theorem region_tail {id : Nat} {Q : Exit → Act → World → Prop} {a : Act} {w : World} {ls : List Oper} (k : Nat) (hm : P.follows .mixedOrders = true) (hB : Region.lexTailB .any ls.toArray k = true)
    (h : wpStill P ls.toArray w.drew (fun a' => wpList P ls.toArray Q (ls.drop k) a' w.drew) (ls.take k) a) : (Code.region id ls.toArray true).wp P Q a w := wp_region_still_tail k hm hB h
end
end Go.Proofs.YtpbimdkclnekeaaGreat

namespace Go.Proofs.YtpbimdkclnekeaaGreat
open Go.RowKit
set_option linter.unusedVariables false

theorem Tryz.infoFile : (Tryz.prog.info? 185).map (fun i => (i.zero, i.size, i.bytes)) = some (some (.agg #[.string ByteArray.empty, .string ByteArray.empty, .int .i64 0]), 3, 40) := by kernel_rfl
section
variable {T e : TypeId} {B : Nat} {w : World} {p : Nat} {S : DS} {fs : Value}

theorem DiskAt.at {g n cap : Nat} (h : DiskAt T e B w p S (.slice (some ⟨g, 0, none⟩) n cap)) {i : Nat} {f : FS} (hf : S.files[i]? = some f) :
    w.cell? ⟨g, i * 3, none⟩ = some (.string f.name) ∧ w.cell? ⟨g, i * 3 + 1, none⟩ = some (.string f.data) ∧ w.cell? ⟨g, i * 3 + 2, none⟩ = some (.int .i64 f.safe) ∧ (∀ j, w.frozen? ⟨g, j, none⟩ = false) := by
  obtain ⟨g', cap', hv, _, _, hz, hc⟩ := h.files (by have := (List.getElem?_eq_some_iff.1 hf).1; omega)
  injection hv with h1 h2 h3
  injection h1 with h1
  injection h1 with h1
  subst h1
  obtain ⟨x, y, z⟩ := hc i f hf
  exact ⟨x, y, z, hz⟩

theorem DiskAt.setData (h : DiskAt T e B w p S fs) (hT : T ≠ e) {g cap : Nat} (hfs : fs = .slice (some ⟨g, 0, none⟩) S.files.length cap) {i : Nat} {f : FS} (hf : S.files[i]? = some f) (d : ByteArray) :
    DiskAt T e B (w.setCell ⟨g, i * 3 + 1, none⟩ (.string d)) p { S with files := S.files.set i { f with data := d } } fs ∧ Kept (foot p fs) w (w.setCell ⟨g, i * 3 + 1, none⟩ (.string d)) := by
  have hg : fs.ownBlock = some g := by rw [hfs]; rfl
  have hne : p ≠ g := fun e => h.apart hT (e ▸ hg)
  have hr := h.row
  rw [hfs] at hr
  have hs := hr.stored (i * 3 + 1) (.string d)
  rw [← fileCells_set1 _ _ _ d hf] at hs
  refine ⟨⟨?_, h.base, ?_⟩, (Kept.refl (foot p fs) w).setCell (fun _ => .inr hg) _⟩
  · rw [Below.heap_setCell _ _ _ _ hne]; exact h.head
  · rw [hfs]; simpa using hs.1
theorem DiskAt.setSafe (h : DiskAt T e B w p S fs) (hT : T ≠ e) {g cap : Nat} (hfs : fs = .slice (some ⟨g, 0, none⟩) S.files.length cap) {i : Nat} {f : FS} (hf : S.files[i]? = some f) (d : Nat) :
    DiskAt T e B (w.setCell ⟨g, i * 3 + 2, none⟩ (.int .i64 d)) p { S with files := S.files.set i { f with safe := d } } fs ∧ Kept (foot p fs) w (w.setCell ⟨g, i * 3 + 2, none⟩ (.int .i64 d)) := by
  have hg : fs.ownBlock = some g := by rw [hfs]; rfl
  have hne : p ≠ g := fun e => h.apart hT (e ▸ hg)
  have hr := h.row
  rw [hfs] at hr
  have hs := hr.stored (i * 3 + 2) (.int .i64 d)
  rw [← fileCells_set2 _ _ _ d hf] at hs
  refine ⟨⟨?_, h.base, ?_⟩, (Kept.refl (foot p fs) w).setCell (fun _ => .inr hg) _⟩
  · rw [Below.heap_setCell _ _ _ _ hne]; exact h.head
  · rw [hfs]; simpa using hs.1

/-- the list of files is another: the head's first cell is written. -/
theorem DiskAt.setFiles {w0 : World} (h : DiskAt T e B w0 p S fs) (hT : T ≠ e) (hk : Kept (foot p fs) w0 w) (hp : w.heap[p]? = w0.heap[p]?) {v' : Value} {l : List FS} (hrow : w.ownsRow B e 3 v' l.length (fileCells l)) :
    DiskAt T e B (w.setCell ⟨p, 0, none⟩ v') p { S with files := l } v' ∧ Kept (foot p fs) w0 (w.setCell ⟨p, 0, none⟩ v') := by
  have hh : w.heap[p]? = some (.cells #[fs, .int .i64 S.left, .bool S.down] T (0, 0)) := hp.trans h.head
  have hk' : Kept (fun k => k = p) w (w.setCell ⟨p, 0, none⟩ v') := (Kept.refl (fun k => k = p) w).setCell (fun _ => rfl) _
  refine ⟨⟨by rw [dset hh]; rfl, h.base, owns_kept hrow hk' (fun k hko hkp => ?_)⟩, hk.setCell (fun _ => .inl rfl) _⟩
  subst hkp
  obtain ⟨cur, hc⟩ := owns_type hrow hko
  rw [hh] at hc
  injection hc with hc; injection hc with _ hc; exact hT hc
end

def afterAppend (S : DS) (name data : ByteArray) : DS := if stoppedB S then stepped S else appended (stepped S) name data
theorem stepped_files (S : DS) : (stepped S).files = S.files := by unfold stepped; split <;> rfl

theorem afterAppend_some {S : DS} {nm dt : ByteArray} {i : Nat} {f : FS} (hs : stoppedB S = false) (hpl : place S.files nm = some i) (hf : S.files[i]? = some f) : afterAppend S nm dt = { stepped S with files := (stepped S).files.set i { f with data := f.data ++ dt } } := by
  simp [afterAppend, hs, appended, stepped_files, hpl, hf]
theorem afterAppend_none {S : DS} {nm dt : ByteArray} (hs : stoppedB S = false) (hpl : place S.files nm = none) : afterAppend S nm dt = { stepped S with files := (stepped S).files ++ [⟨nm, dt, 0⟩] } := by
  simp [afterAppend, hs, appended, stepped_files, hpl]
theorem afterAppend_stopped {S : DS} {nm dt : ByteArray} (hs : stoppedB S = true) : afterAppend S nm dt = stepped S := by simp [afterAppend, hs]

set_option maxHeartbeats 1000000 in
theorem append_stopped (B : Nat) (p : Nat) (S : DS) (fs : Value) (nm dt : ByteArray) (w : World) (hl1 : -1 ≤ S.left) (hl2 : S.left ≤ 9223372036854775807) (hs : stoppedB S = true) (h : DiskAt 119 185 B w p S fs) :
    Calls Tryz.prog 121 #[.pointer (some ⟨p, 0, none⟩), .string nm, .string dt] w fun e w' => e = .returned (.bool false) ∧ DiskAt 119 185 B w' p (stepped S) fs ∧ Kept (foot p fs) w w' := by
  have HST := hide (step_any B p S fs w ⟨hl1, hl2⟩ h)
  rw [hs] at HST
  clear hs
  go_enter Tryz.func121, Tryz.ntmps121
  go_wp2_with (go_at_call 173; refine (unhide HST).mono ?_; rintro e w1 ⟨rfl, h1, hk1⟩)
  go_ret
  exact ⟨rfl, h1, hk1⟩

set_option maxHeartbeats 1000000 in
theorem append_some (B : Nat) (p : Nat) (S : DS) (fs : Value) (nm dt : ByteArray) (w : World) (N : Nat) (hN : N ≤ 1099511627776) (hok : DOk S N) (hdt : dt.size ≤ 1099511627776) (hs : stoppedB S = false) (i : Nat) (f : FS) (hpl : place S.files nm = some i) (hf : S.files[i]? = some f) (h : DiskAt 119 185 B w p S fs) :
    Calls Tryz.prog 121 #[.pointer (some ⟨p, 0, none⟩), .string nm, .string dt] w fun e w' => e = .returned (.bool true) ∧ DiskAt 119 185 B w' p { stepped S with files := (stepped S).files.set i { f with data := f.data ++ dt } } fs ∧ Kept (foot p fs) w w' := by
  obtain ⟨hl1, hl2, hn, hall⟩ := hok
  have HST := hide (step_any B p S fs w ⟨hl1, hl2⟩ h)
  rw [hs] at HST
  have hil : i < S.files.length := (List.getElem?_eq_some_iff.1 hf).1
  have hiz : (i : Int) < S.files.length := by omega
  have hi0 : ¬ (i : Int) < 0 := by omega
  have hfd := (hall f (List.mem_of_getElem? hf)).2
  have hsum : f.data.size + dt.size ≤ 9223372036854775807 := by omega
  have hadd := fun wx => run_string_add_sum (P := Tryz.prog) (w := wx) f.data dt hsum
  have HPI : Hid (placeI (stepped S).files nm = i) := by show _ = _; simp [placeI, stepped_files, hpl]
  have hf1 : (stepped S).files[i]? = some f := by rw [stepped_files]; exact hf
  have HF := hide hf1
  have hlen : (stepped S).files.length ≤ N := by rw [stepped_files]; exact hn
  have HL : Hid (S.files.length = (stepped S).files.length) := by show _ = _; rw [stepped_files]
  obtain ⟨g, cap, rfl, -⟩ := h.files (by omega)
  clear hs hpl hf1 hall
  go_enter Tryz.func121, Tryz.ntmps121
  go_wp2_with (first
    | (go_at_call 173; refine (unhide HST).mono ?_; rintro e w1 ⟨rfl, h1, hk1⟩; have c0 := h1.c0; obtain ⟨x0, x1, x2, xf⟩ := h1.at (unhide HF))
    | (go_at_call 174; refine (find_any B p (stepped S) _ nm _ N hN hlen h1).mono ?_; rintro e w2 ⟨rfl, rfl⟩; rw [unhide HPI]))
  go_ret
  obtain ⟨ha, hk⟩ := h1.setData (by decide) (by rw [unhide HL]) (unhide HF) (f.data ++ dt)
  exact ⟨rfl, ha, hk1.trans hk (fun _ _ hh => hh)⟩

theorem nothing_append (d : ByteArray) : (⟨#[]⟩ ++ d : ByteArray) = d := by
  cases d with
  | mk data => apply ByteArray.ext; simp

theorem pushed_row {w : World} {B : Nat} {e : TypeId} {v : Value} {l : List FS} {f : FS} {n : Nat} (hn : n = l.length) (h : w.ownsRow B e 3 v (n + 1) (fileCells l ++ [.string f.name, .string f.data, .int .i64 f.safe])) : w.ownsRow B e 3 v (l ++ [f]).length (fileCells (l ++ [f])) := by
  subst hn
  rw [fileCells_append]; simpa [fileCells] using h

set_option maxHeartbeats 1000000 in
theorem append_none (B : Nat) (p : Nat) (S : DS) (fs : Value) (nm dt : ByteArray) (w : World) (N : Nat) (hN : N ≤ 1099511627776) (hok : DOk S N) (hdt : dt.size ≤ 1099511627776) (hB : B ≤ w.heap.size) (hs : stoppedB S = false) (hpl : place S.files nm = none) (h : DiskAt 119 185 B w p S fs) :
    Calls Tryz.prog 121 #[.pointer (some ⟨p, 0, none⟩), .string nm, .string dt] w fun e w' => e = .returned (.bool true) ∧ ∃ fs', DiskAt 119 185 B w' p { stepped S with files := (stepped S).files ++ [⟨nm, dt, 0⟩] } fs' ∧ Kept (foot p fs) w w' ∧ ∀ k, fs'.ownBlock = some k → fs.ownBlock = some k ∨ w.heap.size ≤ k := by
  obtain ⟨hl1, hl2, hn, hall⟩ := hok
  have HST := hide (step_any B p S fs w ⟨hl1, hl2⟩ h)
  rw [hs] at HST
  have HPI : Hid (placeI (stepped S).files nm = -1) := by show _ = _; simp [placeI, stepped_files, hpl]
  have hlen : (stepped S).files.length ≤ N := by rw [stepped_files]; exact hn
  have HL : Hid ((stepped S).files.length = S.files.length) := by show _ = _; rw [stepped_files]
  obtain ⟨a, cap0, rfl⟩ := slice_of h.row
  have hadd := fun wx => run_string_add_sum (P := Tryz.prog) (w := wx) ⟨#[]⟩ dt (by show 0 + dt.size ≤ _; omega)
  clear hs hpl hall h
  go_enter Tryz.func121, Tryz.ntmps121
  go_wp2_with (first
    | (at_builtin
       refine wpList_append_keep rfl _ _ 117 rfl B 185 _ 3 40 Tryz.underlying117 Tryz.infoFile rfl (by decide) (.slice a S.files.length cap0) S.files.length (fileCells (stepped S).files) rfl ?hown ⟨w2.heap.size, 0, none⟩ 1 1 [.string nm, .string ⟨#[]⟩, .int .i64 0] rfl rfl ?hnews ?h1 (by decide) ?h63 ?hbytes ?hbase ?_
       case hown => (have := h1.row; rw [unhide HL] at this; exact this.alloc _)
       case hnews => exact World.news_of_block (heap_alloc_last _ _)
       case h1 => (intro u hu; simp at hu; rcases hu with rfl | rfl | rfl <;> rfl)
       case h63 => (simp only [maxLen]; omega)
       case hbytes => omega
       case hbase => (have := hk1.size; simp; omega)
       intro g cap w3 hown hold hgrow hat hlt
       have hp1 := h1.lt
       have hp3 : w3.heap[p]? = w2.heap[p]? := (hgrow.block p (by simp; omega) (fun e => h1.apart (by decide) e.symm)).trans (Below.heap_alloc _ _ _ hp1)
       have hk3 : Kept (foot p (.slice a S.files.length cap0)) w2 w3 := ((Kept.refl _ _).alloc _).grown hgrow (fun k hk _ => .inr hk)
       have hrow := pushed_row (f := ⟨nm, ⟨#[]⟩, 0⟩) (unhide HL).symm hown
       obtain ⟨hD, hK⟩ := h1.setFiles (by decide) hk3 hp3 hrow
       have e0 := hD.c0
       obtain ⟨e1, e2, e3, e4⟩ := hD.at (i := S.files.length) (f := ⟨nm, ⟨#[]⟩, 0⟩) (by simp [unhide HL])
       have d0 : w3.cell? ⟨p, 0, none⟩ = _ := (World.cell?_of_block (a := ⟨p, 0, none⟩) hp3).trans h1.c0
       have d1 : w3.frozen? ⟨p, 0, none⟩ = false := (World.frozen?_of_block (a := ⟨p, 0, none⟩) hp3).trans (h1.free 0))
    | (go_at_call 173; refine (unhide HST).mono ?_; rintro e w1 ⟨rfl, h1, hk1⟩; have c0 := h1.c0)
    | (go_at_call 174; refine (find_any B p (stepped S) _ nm _ N hN hlen h1).mono ?_; rintro e w2 ⟨rfl, rfl⟩; rw [unhide HPI]))
  go_ret
  obtain ⟨ha, hk⟩ := hD.setData (by decide) (g := g) (cap := cap) (by simp [unhide HL]) (i := S.files.length) (f := ⟨nm, ⟨#[]⟩, 0⟩) (by simp [unhide HL]) (⟨#[]⟩ ++ dt)
  refine ⟨rfl, .slice (some ⟨g, 0, none⟩) (S.files.length + 1) cap, ?_, hk1.trans (hK.trans hk (fun k hlt' hh => ?_)) (fun _ _ hh => hh), fun k hk' => ?_⟩
  · rw [nothing_append] at ha ⊢
    have e : ((stepped S).files ++ [(⟨nm, ⟨#[]⟩, 0⟩ : FS)]).set S.files.length ⟨nm, dt, 0⟩ = (stepped S).files ++ [⟨nm, dt, 0⟩] := by
      rw [← unhide HL]; simp
    rw [← e]; exact ha
  · rcases hh with rfl | hh
    · exact .inl rfl
    · simp [Value.ownBlock] at hh
      subst hh
      rcases hat with hat | hat
      · exact .inr hat
      · simp at hat; omega
  · simp [Value.ownBlock] at hk'
    subst hk'
    rcases hat with hat | hat
    · exact .inl hat
    · right; have := hk1.size; simp at hat; omega

theorem append_any (B : Nat) (p : Nat) (S : DS) (fs : Value) (nm dt : ByteArray) (w : World) (N : Nat) (hN : N ≤ 1099511627776) (hok : DOk S N) (hdt : dt.size ≤ 1099511627776) (hB : B ≤ w.heap.size) (h : DiskAt 119 185 B w p S fs) :
    Calls Tryz.prog 121 #[.pointer (some ⟨p, 0, none⟩), .string nm, .string dt] w fun e w' => e = .returned (.bool (!stoppedB S)) ∧ ∃ fs', DiskAt 119 185 B w' p (afterAppend S nm dt) fs' ∧ Kept (foot p fs) w w' ∧ ∀ k, fs'.ownBlock = some k → fs.ownBlock = some k ∨ w.heap.size ≤ k := by
  cases hs : stoppedB S
  · cases hpl : place S.files nm with
    | none => rw [afterAppend_none hs hpl]; exact append_none B p S fs nm dt w N hN hok hdt hB hs hpl h
    | some i =>
      obtain ⟨f, hf, _, _⟩ := place_some hpl
      rw [afterAppend_some hs hpl hf]
      exact (append_some B p S fs nm dt w N hN hok hdt hs i f hpl hf h).mono fun e w' ⟨h1, h2, h3⟩ => ⟨h1, fs, h2, h3, fun k hk => .inl hk⟩
  · rw [afterAppend_stopped hs]
    exact (append_stopped B p S fs nm dt w hok.1 hok.2.1 hs h).mono fun e w' ⟨h1, h2, h3⟩ => ⟨h1, fs, h2, h3, fun k hk => .inl hk⟩
end Go.Proofs.YtpbimdkclnekeaaGreat

namespace Go.Proofs.YtpbimdkclnekeaaGreat
open Go.RowKit
set_option linter.unusedVariables false

theorem DiskAt.drew {T e : TypeId} {B : Nat} {w : World} {p : Nat} {S : DS} {fs : Value} (h : DiskAt T e B w p S fs) : DiskAt T e B w.drew p S fs := h.later ((Below.refl _ _).drew)

def afterSync (S : DS) (name : ByteArray) : DS := if stoppedB S then stepped S else synced (stepped S) name
theorem afterSync_some {S : DS} {nm : ByteArray} {i : Nat} {f : FS} (hs : stoppedB S = false) (hpl : place S.files nm = some i) (hf : S.files[i]? = some f) : afterSync S nm = { stepped S with files := (stepped S).files.set i { f with safe := f.data.size } } := by
  simp [afterSync, hs, synced, stepped_files, hpl, hf]
theorem afterSync_none {S : DS} {nm : ByteArray} (hs : stoppedB S = false) (hpl : place S.files nm = none) : afterSync S nm = stepped S := by
  simp [afterSync, hs, synced, stepped_files, hpl]
theorem afterSync_stopped {S : DS} {nm : ByteArray} (hs : stoppedB S = true) : afterSync S nm = stepped S := by simp [afterSync, hs]

set_option maxHeartbeats 1000000 in
theorem sync_stopped (B : Nat) (p : Nat) (S : DS) (fs : Value) (nm : ByteArray) (w : World) (N : Nat) (hN : N ≤ 1099511627776) (hok : DOk S N) (hs : stoppedB S = true) (h : DiskAt 119 185 B w p S fs) :
    Calls Tryz.prog 122 #[.pointer (some ⟨p, 0, none⟩), .string nm] w fun e w' => e = .returned (.bool false) ∧ DiskAt 119 185 B w' p (stepped S) fs ∧ Kept (foot p fs) w w' := by
  obtain ⟨hl1, hl2, hn, hall⟩ := hok
  have HST := hide (step_any B p S fs w ⟨hl1, hl2⟩ h)
  rw [hs] at HST
  have hlen : (stepped S).files.length ≤ N := by rw [stepped_files]; exact hn
  clear hs hall
  go_enter Tryz.func122, Tryz.ntmps122
  go_wp2_with (first
    | (go_at_call 173; refine (unhide HST).mono ?_; rintro e w1 ⟨rfl, h1, hk1⟩)
    | (go_at_call 174; refine (find_any B p (stepped S) _ nm _ N hN hlen h1).mono ?_; rintro e w2 ⟨rfl, rfl⟩))
  go_ret
  exact ⟨rfl, h1, hk1⟩

set_option maxHeartbeats 1000000 in
theorem sync_none (B : Nat) (p : Nat) (S : DS) (fs : Value) (nm : ByteArray) (w : World) (N : Nat) (hN : N ≤ 1099511627776) (hok : DOk S N) (hs : stoppedB S = false) (hpl : place S.files nm = none) (h : DiskAt 119 185 B w p S fs) :
    Calls Tryz.prog 122 #[.pointer (some ⟨p, 0, none⟩), .string nm] w fun e w' => e = .returned (.bool true) ∧ DiskAt 119 185 B w' p (stepped S) fs ∧ Kept (foot p fs) w w' := by
  obtain ⟨hl1, hl2, hn, hall⟩ := hok
  have HST := hide (step_any B p S fs w ⟨hl1, hl2⟩ h)
  rw [hs] at HST
  have HPI : Hid (placeI (stepped S).files nm = -1) := by show _ = _; simp [placeI, stepped_files, hpl]
  have hlen : (stepped S).files.length ≤ N := by rw [stepped_files]; exact hn
  clear hs hpl hall
  go_enter Tryz.func122, Tryz.ntmps122
  go_wp2_with (first
    | (go_at_call 173; refine (unhide HST).mono ?_; rintro e w1 ⟨rfl, h1, hk1⟩)
    | (go_at_call 174; refine (find_any B p (stepped S) _ nm _ N hN hlen h1).mono ?_; rintro e w2 ⟨rfl, rfl⟩; rw [unhide HPI]))
  go_ret
  exact ⟨rfl, h1, hk1⟩

set_option maxHeartbeats 1000000 in
theorem sync_some (B : Nat) (p : Nat) (S : DS) (fs : Value) (nm : ByteArray) (w : World) (N : Nat) (hN : N ≤ 1099511627776) (hok : DOk S N) (hs : stoppedB S = false) (i : Nat) (f : FS) (hpl : place S.files nm = some i) (hf : S.files[i]? = some f) (h : DiskAt 119 185 B w p S fs) :
    Calls Tryz.prog 122 #[.pointer (some ⟨p, 0, none⟩), .string nm] w fun e w' => e = .returned (.bool true) ∧ DiskAt 119 185 B w' p { stepped S with files := (stepped S).files.set i { f with safe := f.data.size } } fs ∧ Kept (foot p fs) w w' := by
  obtain ⟨hl1, hl2, hn, hall⟩ := hok
  have HST := hide (step_any B p S fs w ⟨hl1, hl2⟩ h)
  rw [hs] at HST
  have hil : i < S.files.length := (List.getElem?_eq_some_iff.1 hf).1
  have hiz : (i : Int) < S.files.length := by omega
  have hi0 : (0 : Int) ≤ (i : Int) := by omega
  have HPI : Hid (placeI (stepped S).files nm = i) := by show _ = _; simp [placeI, stepped_files, hpl]
  have hf1 : (stepped S).files[i]? = some f := by rw [stepped_files]; exact hf
  have HF := hide hf1
  have hlen : (stepped S).files.length ≤ N := by rw [stepped_files]; exact hn
  have HL : Hid (S.files.length = (stepped S).files.length) := by show _ = _; rw [stepped_files]
  obtain ⟨g, cap, rfl, -⟩ := h.files (by omega)
  clear hs hpl hf1 hall
  go_enter Tryz.func122, Tryz.ntmps122
  go_wp2_with (first
    | (go_at_call 173; refine (unhide HST).mono ?_; rintro e w1 ⟨rfl, h1, hk1⟩; have c0 := h1.c0; obtain ⟨x0, x1, x2, xf⟩ := h1.at (unhide HF))
    | (go_at_call 174; refine (find_any B p (stepped S) _ nm _ N hN hlen h1).mono ?_; rintro e w2 ⟨rfl, rfl⟩; rw [unhide HPI]))
  go_region
  go_wp2
  go_ret
  obtain ⟨ha, hk⟩ := h1.setSafe (by decide) (by rw [unhide HL]) (unhide HF) f.data.size
  exact ⟨rfl, ha.drew, hk1.trans hk.drew (fun _ _ hh => hh)⟩

theorem sync_any (B : Nat) (p : Nat) (S : DS) (fs : Value) (nm : ByteArray) (w : World) (N : Nat) (hN : N ≤ 1099511627776) (hok : DOk S N) (h : DiskAt 119 185 B w p S fs) :
    Calls Tryz.prog 122 #[.pointer (some ⟨p, 0, none⟩), .string nm] w fun e w' => e = .returned (.bool (!stoppedB S)) ∧ DiskAt 119 185 B w' p (afterSync S nm) fs ∧ Kept (foot p fs) w w' := by
  cases hs : stoppedB S
  · cases hpl : place S.files nm with
    | none => rw [afterSync_none hs hpl]; exact sync_none B p S fs nm w N hN hok hs hpl h
    | some i =>
      obtain ⟨f, hf, _, _⟩ := place_some hpl
      rw [afterSync_some hs hpl hf]
      exact sync_some B p S fs nm w N hN hok hs i f hpl hf h
  · rw [afterSync_stopped hs]
    exact sync_stopped B p S fs nm w N hN hok hs h

end Go.Proofs.YtpbimdkclnekeaaGreat

namespace Go.Proofs.YtpbimdkclnekeaaGreat
open Go.RowKit
set_option linter.unusedVariables false

def newS : DS := ⟨[], -1, false⟩
set_option maxHeartbeats 400000 in
theorem new_any (B : Nat) (w : World) (hB : B ≤ w.heap.size) :
    Calls Tryz.prog 25 #[] w fun e w' => e = .returned (.pointer (some ⟨w.heap.size, 0, none⟩)) ∧ DiskAt 119 185 B w' w.heap.size newS (.slice none 0 0) ∧ Below w.heap.size w w' ∧ w'.heap.size = w.heap.size + 1 := by
  go_enter Tryz.func25, Tryz.ntmps25
  go_wp2
  go_ret
  exact ⟨rfl, ⟨heap_alloc_last _ _, hB, World.ownsRow_nil _ _ _ _⟩, (Below.refl _ _).alloc (Nat.le_refl _) _, (by simp)⟩

theorem stopAt_stopped {S : DS} {n : Int} (h : stoppedB S = true) : stopAt S n = S := by simp [stopAt, h]
theorem stopAt_neg {S : DS} {n : Int} (h : stoppedB S = false) (hn : n < 0) : stopAt S n = { S with left := -1 } := by simp [stopAt, h, hn]
theorem stopAt_pos {S : DS} {n : Int} (h : stoppedB S = false) (hn : ¬ n < 0) : stopAt S n = { S with left := n } := by simp [stopAt, h, hn]

set_option maxHeartbeats 400000 in
theorem stop_any (B : Nat) (p : Nat) (S : DS) (fs : Value) (n : Int) (w : World) (hD : DiskAt 119 185 B w p S fs) :
    Calls Tryz.prog 46 #[.pointer (some ⟨p, 0, none⟩), .int .i64 n] w fun e w' => e = .returned (.tuple #[]) ∧ DiskAt 119 185 B w' p (stopAt S n) fs ∧ Kept (foot p fs) w w' := by
  cases hs : stoppedB S
  · by_cases hn : n < 0
    · rw [stopAt_neg hs hn]
      by_cases hm : n = -1
      · subst hm
        have HST := hide (stopped_any B p S fs w hD)
        rw [hs] at HST
        clear hs
        go_enter Tryz.func46, Tryz.ntmps46
        go_wp2_with (go_at_call 47; refine (unhide HST).mono ?_; rintro e w1 ⟨rfl, rfl⟩; have c1 := hD.c1; have c2 := hD.free 1)
        go_end0
        exact ⟨rfl, hD.setLeft (by decide) (-1)⟩
      · have hm' : ¬ -1 ≤ n := by omega
        have HST := hide (stopped_any B p S fs w hD)
        rw [hs] at HST
        clear hs
        go_enter Tryz.func46, Tryz.ntmps46
        go_wp2_with (go_at_call 47; refine (unhide HST).mono ?_; rintro e w1 ⟨rfl, rfl⟩; have c1 := hD.c1; have c2 := hD.free 1)
        go_end0
        exact ⟨rfl, hD.setLeft (by decide) (-1)⟩
    · rw [stopAt_pos hs hn]
      have hm' : -1 ≤ n := by omega
      have HST := hide (stopped_any B p S fs w hD)
      rw [hs] at HST
      clear hs
      go_enter Tryz.func46, Tryz.ntmps46
      go_wp2_with (go_at_call 47; refine (unhide HST).mono ?_; rintro e w1 ⟨rfl, rfl⟩; have c1 := hD.c1; have c2 := hD.free 1)
      go_end0
      exact ⟨rfl, hD.setLeft (by decide) n⟩
  · rw [stopAt_stopped hs]
    have HST := hide (stopped_any B p S fs w hD)
    rw [hs] at HST
    clear hs
    go_enter Tryz.func46, Tryz.ntmps46
    go_wp2_with (go_at_call 47; refine (unhide HST).mono ?_; rintro e w1 ⟨rfl, rfl⟩; have c1 := hD.c1; have c2 := hD.free 1)
    go_end0
    exact ⟨rfl, hD, Kept.refl _ _⟩

theorem dret_str {a b : ByteArray} (h : a = b) : Ending.returned (.string a) = .returned (.string b) := by rw [h]

def readD (S : DS) (nm : ByteArray) : ByteArray := match place S.files nm with | some i => (match S.files[i]? with | some f => f.data | none => ⟨#[]⟩) | none => ⟨#[]⟩

set_option maxHeartbeats 400000 in
theorem read_any (B : Nat) (p : Nat) (S : DS) (fs : Value) (nm : ByteArray) (w : World) (N : Nat) (hN : N ≤ 1099511627776) (hn : S.files.length ≤ N) (h : DiskAt 119 185 B w p S fs) :
    Calls Tryz.prog 123 #[.pointer (some ⟨p, 0, none⟩), .string nm] w fun e w' => e = .returned (.string (readD S nm)) ∧ w' = w := by
  have HFI := hide (find_any B p S fs nm w N hN hn h)
  cases hpl : place S.files nm with
  | none =>
    have e1 : placeI S.files nm = -1 := by simp [placeI, hpl]
    have HR : Hid (readD S nm = ⟨#[]⟩) := by show _ = _; simp [readD, hpl]
    rw [e1] at HFI
    clear hpl e1
    go_enter Tryz.func123, Tryz.ntmps123
    go_wp2_with (go_at_call 174; refine (unhide HFI).mono ?_; rintro e w1 ⟨rfl, rfl⟩)
    go_ret
    exact ⟨dret_str (unhide HR).symm, rfl⟩
  | some i =>
    obtain ⟨f, hf, hil, _⟩ := place_some hpl
    have e1 : placeI S.files nm = i := by simp [placeI, hpl]
    have HR : Hid (readD S nm = f.data) := by show _ = _; simp [readD, hpl, hf]
    rw [e1] at HFI
    have hiz : (i : Int) < S.files.length := by omega
    have hi0 : ¬ (i : Int) < 0 := by omega
    obtain ⟨g, cap, rfl, -⟩ := h.files (by omega)
    have c0 := h.c0
    obtain ⟨x0, x1, x2, xf⟩ := h.at hf
    clear hpl e1 hf xf
    go_enter Tryz.func123, Tryz.ntmps123
    go_wp2_with (go_at_call 174; refine (unhide HFI).mono ?_; rintro e w1 ⟨rfl, rfl⟩)
    go_ret
    exact ⟨dret_str (unhide HR).symm, rfl⟩

end Go.Proofs.YtpbimdkclnekeaaGreat

namespace Go.Proofs.YtpbimdkclnekeaaGreat
open Go.RowKit

set_option maxHeartbeats 1000000 in
theorem fit_any (s le la wi ke qu : Int) (a : Option Addr) (n cap : Nat) (F W K : Nat → Int) (hn : n ≤ 4) (hF : ∀ i, i < n → -1 ≤ F i ∧ F i < n) (hwi : 1 ≤ wi ∧ wi ≤ 1000) (hW : ∀ i, i < n → 1 ≤ W i ∧ W i ≤ 1000) (w : World) (h : TS w a n F W K) :
    Calls Tryz.prog 172 #[.agg #[.int .i64 s, .int .i64 le, .int .i64 la, .int .i64 wi, .int .i64 ke, .int .i64 qu, .slice a n cap]] w fun e w' => e = .returned (.bool (allB n (fitB n wi F W))) ∧ Below w.heap.size w w' := by
  go_enter Tryz.func172, Tryz.ntmps172
  go_wp2
  go_loopw [2, 3, 4, 8] (fun _ _ _ y wr => ∃ (k : Nat), k ≤ n ∧ y = .int .i64 k ∧ allB k (fitB n wi F W) = true ∧ Below (w.heap.size + 1) (w.alloc (.cells #[.int .i64 s, .int .i64 le, .int .i64 la, .int .i64 wi, .int .i64 ke, .int .i64 qu, .slice a n cap] 27)) wr) (fun _ _ _ y _ => n - (intOf y).toNat)
  case atStart => exact ⟨0, Nat.zero_le _, rfl, allB_zero _, Below.refl _ _⟩
  case round =>
    obtain ⟨k, hk, rfl, ha, hb⟩ := hrel
    have HA : Hid (allB k (fitB n wi F W) = true) := ha
    clear ha
    have hbw : Below w.heap.size w wr := ((Below.refl _ _).alloc (Nat.le_refl _) _).trans (hb.mono (by omega))
    have hsz : w.heap.size < wr.heap.size := by have := hb.size; simp at this; omega
    by_cases hlt : k < n
    · have h' := h.below hbw
      have hcf := (CF.made w 27 (0, 0) s le la wi ke qu a n cap).below hb (by omega)
      obtain ⟨_, c0, c1, c2, c3, c4, c5, c6⟩ := hcf
      have hta := h'
      obtain ⟨b, off, rfl, hbz, hc⟩ := h' (by omega)
      obtain ⟨h1, h2, h3⟩ := hc k hlt
      have hkn : (k : Int) < n := by omega
      have hf := hF k hlt
      clear hc h h'
      have hwb : 1 ≤ widthOf wi W (F k) ∧ widthOf wi W (F k) ≤ 1000 := by
        unfold widthOf
        by_cases e : F k = -1
        · rw [if_pos e]; omega
        · rw [if_neg e]; exact hW _ (by omega)
      obtain ⟨hwb1, hwb2⟩ := hwb
      have hwk := hW k hlt
      by_cases e1 : W k % widthOf wi W (F k) = 0
      · have hq : (W k % widthOf wi W (F k) != 0) = false := by simp [e1]
        cases e2 : down F n k
        · have HF : Hid (allB n (fitB n wi F W) = false) := allB_false_of _ _ k hlt (by simp [fitB, e2])
          clear e1
          have hne : Nonempty (Later (wr.heap.size + 1) (wr.alloc (Obj.cells #[Value.int IntKind.i64 (F k), Value.int IntKind.i64 (W k), Value.int IntKind.i64 (K k)] 66))) := Later.some _ _
          have hlc := fun (u : Later (wr.heap.size + 1) (wr.alloc (Obj.cells #[Value.int IntKind.i64 (F k), Value.int IntKind.i64 (W k), Value.int IntKind.i64 (K k)] 66))) b o h => u.cell b o h
          go_wp2
          refine wp_region_later (wr.heap.size + 1) (by kernel_rfl) (by kernel_rfl) ?_
          repeat (go_big_quiet_step (first
            | (go_at_call 206; exact Calls.later (by simp) (width_any s le la wi ke qu _ n cap F W K _ hf.1 hf.2 hn _ (hta.below (((Below.refl _ _).alloc (Nat.le_refl _) _).trans (Below.mono (Subtype.property _) (by omega))))))
            | (go_at_call 207; exact Calls.later_same (comesToRaw_any _ n cap F W K k hlt hn hF _ (hta.below (((Below.refl _ _).alloc (Nat.le_refl _) _).trans (Below.mono (Subtype.property _) (by omega))))))))
          refine wpQuiet_nil ?_
          rintro ⟨w1, hb1⟩
          have hb2 : Below (wr.heap.size) wr w1 := ((Below.refl _ _).alloc (Nat.le_refl _) _).trans (hb1.mono (by omega))
          have hb3 : Below (w.heap.size + 1) wr w1 := hb2.mono (by omega)
          clear hlc hne
          dsimp only
          go_wp2
          go_ret
          exact ⟨ret_bool HF.out.symm, hbw.trans (hb3.mono (by omega))⟩
        · have HF : Hid (allB (k + 1) (fitB n wi F W) = true) := by
            show _ = _
            rw [allB_succ, HA.out]; simp [fitB, e1, e2]
          clear e1
          have hne : Nonempty (Later (wr.heap.size + 1) (wr.alloc (Obj.cells #[Value.int IntKind.i64 (F k), Value.int IntKind.i64 (W k), Value.int IntKind.i64 (K k)] 66))) := Later.some _ _
          have hlc := fun (u : Later (wr.heap.size + 1) (wr.alloc (Obj.cells #[Value.int IntKind.i64 (F k), Value.int IntKind.i64 (W k), Value.int IntKind.i64 (K k)] 66))) b o h => u.cell b o h
          go_wp2
          refine wp_region_later (wr.heap.size + 1) (by kernel_rfl) (by kernel_rfl) ?_
          repeat (go_big_quiet_step (first
            | (go_at_call 206; exact Calls.later (by simp) (width_any s le la wi ke qu _ n cap F W K _ hf.1 hf.2 hn _ (hta.below (((Below.refl _ _).alloc (Nat.le_refl _) _).trans (Below.mono (Subtype.property _) (by omega))))))
            | (go_at_call 207; exact Calls.later_same (comesToRaw_any _ n cap F W K k hlt hn hF _ (hta.below (((Below.refl _ _).alloc (Nat.le_refl _) _).trans (Below.mono (Subtype.property _) (by omega))))))))
          refine wpQuiet_nil ?_
          rintro ⟨w1, hb1⟩
          have hb2 : Below (wr.heap.size) wr w1 := ((Below.refl _ _).alloc (Nat.le_refl _) _).trans (hb1.mono (by omega))
          have hb3 : Below (w.heap.size + 1) wr w1 := hb2.mono (by omega)
          clear hlc hne
          dsimp only
          go_wp2
          go_roundw
          case rel => exact ⟨k + 1, by omega, by go_num, HF.out, hb.trans hb3⟩
          case measure => simp [intOf]; omega
      · have hq : (W k % widthOf wi W (F k) != 0) = true := by simp [e1]
        have HF : Hid (allB n (fitB n wi F W) = false) := allB_false_of _ _ k hlt (by simp [fitB, e1])
        clear e1
        have hne : Nonempty (Later (wr.heap.size + 1) (wr.alloc (Obj.cells #[Value.int IntKind.i64 (F k), Value.int IntKind.i64 (W k), Value.int IntKind.i64 (K k)] 66))) := Later.some _ _
        have hlc := fun (u : Later (wr.heap.size + 1) (wr.alloc (Obj.cells #[Value.int IntKind.i64 (F k), Value.int IntKind.i64 (W k), Value.int IntKind.i64 (K k)] 66))) b o h => u.cell b o h
        go_wp2
        refine wp_region_later (wr.heap.size + 1) (by kernel_rfl) (by kernel_rfl) ?_
        repeat (go_big_quiet_step (first
          | (go_at_call 206; exact Calls.later (by simp) (width_any s le la wi ke qu _ n cap F W K _ hf.1 hf.2 hn _ (hta.below (((Below.refl _ _).alloc (Nat.le_refl _) _).trans (Below.mono (Subtype.property _) (by omega))))))
          | (go_at_call 207; exact Calls.later_same (comesToRaw_any _ n cap F W K k hlt hn hF _ (hta.below (((Below.refl _ _).alloc (Nat.le_refl _) _).trans (Below.mono (Subtype.property _) (by omega))))))))
        refine wpQuiet_nil ?_
        rintro ⟨w1, hb1⟩
        have hb2 : Below (wr.heap.size) wr w1 := ((Below.refl _ _).alloc (Nat.le_refl _) _).trans (hb1.mono (by omega))
        have hb3 : Below (w.heap.size + 1) wr w1 := hb2.mono (by omega)
        clear hlc hne
        dsimp only
        go_wp2
        go_ret
        exact ⟨ret_bool HF.out.symm, hbw.trans (hb3.mono (by omega))⟩
    · have e : k = n := by omega
      subst e
      go_wp2
      go_ret
      exact ⟨ret_bool HA.out.symm, hbw⟩
end Go.Proofs.YtpbimdkclnekeaaGreat

namespace Go.Proofs.YtpbimdkclnekeaaGreat
open Go.RowKit Go.ChangeShapes Go.WideShapes

theorem Tryz.cellsConfig : Tryz.prog.cellsOf 27 = 7 := by kernel_rfl
theorem Tryz.cellsTier : Tryz.prog.cellsOf 66 = 3 := by kernel_rfl
theorem Tryz.cellsInt : Tryz.prog.cellsOf 3 = 1 := by kernel_rfl
theorem Tryz.cellsTiers : Tryz.prog.cellsOf 25 = 1 := by kernel_rfl
theorem Tryz.bytesTier : Tryz.prog.bytesOf 66 = 24 := by kernel_rfl

section
variable {H : Type} {enc : TypeId × Value → H} {w : World} {held : Bool}

theorem add_of_none (b off j : Nat) : (⟨b, off, none⟩ : Addr).add j = ⟨b, off + j, none⟩ := by unfold Addr.add; split <;> simp_all

end
end Go.Proofs.YtpbimdkclnekeaaGreat
