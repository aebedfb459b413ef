import Derived.Test.YtpbimdkclnekeaaGreatTWk0
import Derived.Test.YtpbimdkclnekeaaGreatTKit0
import Derived.Test.YtpbimdkclnekeaaGreatTPck2
import Derived.Test.YtpbimdkclnekeaaGreatTMlz0
import Derived.Test.YtpbimdkclnekeaaGreatTPst0
import Derived.Test.YtpbimdkclnekeaaGreatTRefO
import Derived.Test.YtpbimdkclnekeaaGreatTMlz6
import Derived.Test.YtpbimdkclnekeaaGreatTZet7

namespace Go.Proofs.YtpbimdkclnekeaaGreat
open Value (int)
open IntKind (i64)
open Go.RowKit Go.Maps Go.Shelf
set_option linter.unusedVariables false
section
variable {w : World} {i : Ids} {c : Cf} {ep : Int} {m : MS} {r : RM}
theorem ing_side (h : zbb w i c ep m) (hs : zed c ep m r) (ser tm val : Int) (hval : -2147483648 <= val /\ val <= 2147483647) :
  Calls Tryz.prog 59 #[.pointer (some ⟨i.x, 0, none⟩), int i64 ser, int i64 tm, .int .i32 val] w fun e w' => ∃ m', e = .returned (int i64 (r.ingest ser tm val).2) /\ zbb w' i c ep m' /\ zan (zcz i) w w' /\ zed c ep m' (r.ingest ser tm val).1 /\ m'.num <= m.num + 1 := by
 obtain ⟨h1, h2⟩ := hs.ingest ser tm val hval
 refine (ming_any h hs ser tm val hval).mono fun e w' ⟨e1, e2, e3⟩ => ⟨_, by rw [h1]; exact e1, e2, e3, h2, ?_⟩
 unfold zcq
 repeat' split
 all_goals (dsimp only; omega)
theorem tick_side (h : zbb w i c ep m) (hs : zed c ep m r) (n : Int) :
  Calls Tryz.prog 36 #[.pointer (some ⟨i.x, 0, none⟩), int i64 n] w fun e w' => ∃ m', e = .returned (int i64 (r.tickL n).2) /\ zbb w' i c ep m' /\ zan (zcz i) w w' /\ zed c ep m' (r.tickL n).1 /\ m'.num <= m.num + 1 := by
 have hm := hs.sok.ok
 by_cases hb : n < 1 \/ 1000 < n \/ 100000 < m.now + n
 ·rw [hs.tick_bad hb]
  exact (mtick_bad h n hb hm.now).mono fun e w' ⟨e1, e2⟩ => ⟨m, e1, h.later e2, zan.of_below e2, hs, by omega⟩
 ·have hl := hm.seg.len400 hs.ok
  refine (mtick_good h hs.ok n (by omega) ⟨hm.now.1, by omega⟩ (hm.binv hs.ok) hm.seg.inr (by omega) (fun T' Q' he => ?_)).mono ?_
  ·obtain ⟨D, hD⟩ := exps_form hm.nt hm.nq hm.jobs he
   rw [hD.tl, List.length_map]
   have := hm.t800 hs.ok; omega
  ·rintro e w' ⟨e1, TL1, QL1, TL', hM, hK, he, hq, hp⟩
   obtain ⟨c0, hS⟩ := hs.tick (n := n) (by omega) (by omega) he hq hp
   exact ⟨_, by rw [c0]; exact e1, hM, hK, hS, by dsimp only; omega⟩
end
section
variable {B : Nat} {X : World} {q : Nat} {c : Cf} {ep : Int} {m : MS} {r : RM} {tv nv pv gv kv : Value}
theorem ring_side (h : zbk B X q r tv nv pv gv kv) (hap : ∀ k, pv.ownBlock = some k -> ¬ gv.ownBlock = some k) (hB : B <= X.heap.size) (hs : zed c ep m r) (ser tm val : Int) (hval : -2147483648 <= val /\ val <= 2147483647) :
  Calls Tryz.prog 152 #[.pointer (some ⟨q, 0, none⟩), int i64 ser, int i64 tm, .int .i32 val] X fun e V => e = .returned (int i64 (r.ingest ser tm val).2) /\ refPost B X q (r.ingest ser tm val).1 tv nv pv gv kv V := by
 have h1 := hs.len; have h2 := hs.glen; have h3 := hs.plen; have h4 := hs.klen; have h5 := hs.used; have h6 := hs.ubound
 refine (ringest_any h hB hs.hokr (by omega) (by omega) (by omega) (by omega) hs.nums hs.time (by omega) ser tm val hval).mono ?_
 rintro e V ⟨e1, nv', kv', a1, a2, a3, a4⟩
 refine ⟨e1, nv', pv, gv, kv', a1, hap, a2.mono (fun k _ e => ?_), fun k hk => ?_⟩
 ·rcases e with e | e
  ·exact .inl e
  ·exact .inr (.inr (.inl e))
 ·rcases hk with hk | hk | hk | hk | hk | hk
  ·exact .inl (.inl hk)
  ·exact .inl (.inr (.inl hk))
  ·exact (a3 k hk).imp (fun e => .inr (.inr (.inl e))) id
  ·exact .inl (.inr (.inr (.inr (.inl hk))))
  ·exact .inl (.inr (.inr (.inr (.inr (.inl hk)))))
  ·exact (a4 k hk).imp (fun e => .inr (.inr (.inr (.inr (.inr e))))) id
theorem rtick_side (h : zbk B X q r tv nv pv gv kv) (hap : ∀ k, pv.ownBlock = some k -> ¬ gv.ownBlock = some k) (hB : B <= X.heap.size) (hs : zed c ep m r) (n : Int) (hn : -9223372036854775808 <= n /\ n <= 9223372036854775807) :
  Calls Tryz.prog 153 #[.pointer (some ⟨q, 0, none⟩), int i64 n] X fun e V => e = .returned (int i64 (r.tickL n).2) /\ refPost B X q (r.tickL n).1 tv nv pv gv kv V := by
 have h1 := hs.len; have h2 := hs.glen; have h3 := hs.plen; have h4 := hs.klen
 refine (rtick_any h hB hs.hokr (by omega) (by omega) (by omega) (by omega) hs.nums hs.time (fun x hx => (hs.task x hx).1) n hn).mono ?_
 rintro e V ⟨e1, kv', a1, a2, a4⟩
 refine ⟨e1, nv, pv, gv, kv', a1, hap, a2.mono (fun k _ e => ?_), fun k hk => ?_⟩
 ·rcases e with e | e
  ·exact .inl e
  ·exact .inr (.inr (.inr (.inr (.inr e))))
 ·rcases hk with hk | hk | hk | hk | hk | hk
  ·exact .inl (.inl hk)
  ·exact .inl (.inr (.inl hk))
  ·exact .inl (.inr (.inr (.inl hk)))
  ·exact .inl (.inr (.inr (.inr (.inl hk))))
  ·exact .inl (.inr (.inr (.inr (.inr (.inl hk)))))
  ·exact (a4 k hk).imp (fun e => .inr (.inr (.inr (.inr (.inr e))))) id
theorem ing13 (r : RM) (a b v : Int) : ¬ (r.ingest a b v).2 = 13 := by
 unfold RM.ingest; repeat' split
 all_goals simp
theorem tick13 (r : RM) (n : Int) : ¬ (r.tickL n).2 = 13 := by unfold RM.tickL; split <;> simp
end
end Go.Proofs.YtpbimdkclnekeaaGreat
