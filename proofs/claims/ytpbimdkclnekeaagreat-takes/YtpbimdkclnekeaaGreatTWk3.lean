import Derived.Test.YtpbimdkclnekeaaGreatTWk0
import Derived.Test.YtpbimdkclnekeaaGreatTRefI
import Derived.Test.YtpbimdkclnekeaaGreatTOpz1
import Derived.Test.YtpbimdkclnekeaaGreatTConf4

namespace Go.Proofs.YtpbimdkclnekeaaGreat
open Value (int)
open IntKind (i64)
open Go.RowKit Go.Maps Go.Shelf
set_option linter.unusedVariables false
structure PD where
 po : Nat
 d : Nat
 r : Nat
 i : Ids
 c : Cf
 ct : Value
 mv : Value
 td : Value
 fs : Value
 ep : Int
 m : MS
 toks : List Tok
 B0 : Nat
 B1 : Nat
 rm : RM
 rt : Value
 nv : Value
 pv : Value
 gv : Value
 kv : Value
def PD.rest (p : PD) (k : Nat) : Prop := k = p.po \/ Go.Proofs.YtpbimdkclnekeaaGreat.zen p.d p.fs k \/ p.mv.ownBlock = some k \/ p.td.ownBlock = some k \/ rfoot p.r p.rt p.nv p.pv p.gv p.kv k
def PD.foot (p : PD) (k : Nat) : Prop := zcz p.i k \/ p.rest k
structure PD.at (p : PD) (w : World) : Prop where
 head : w.heap[p.po]? = some (zay p.i.x p.d p.c p.ct p.mv p.td p.ep)
 mill : zbb w p.i p.c p.ep p.m
 disk : zaw 119 185 p.B0 w p.d opS2 p.fs
 may : w.ownsRow 0 108 1 p.mv 1 [.pointer (some ⟨p.r, 0, none⟩)]
 told : w.ownsRow 0 49 2 p.td p.toks.length (p.toks.flatMap tkV2)
 ref : zbk p.B1 w p.r p.rm p.rt p.nv p.pv p.gv p.kv
 hap : ∀ k, p.pv.ownBlock = some k -> ¬ p.gv.ownBlock = some k
 sim : zed p.c p.ep p.m p.rm
 twf : ∀ t ∈ p.toks, t.wf
 apart : ∀ k, p.rest k -> ¬ zcz p.i k
theorem row_lt {w : World} {base : Nat} {e : TypeId} {size : Nat} {v : Value} {n : Nat} {xs : List Value} (h : w.ownsRow base e size v n xs) : ∀ k, v.ownBlock = some k -> k < w.heap.size := fun k hk => (h.lt k hk).2
section
variable {p : PD} {w : World}
theorem PD.at.foot_lt (h : p.at w) : ∀ k, p.foot k -> k < w.heap.size := fun k hk => by
 rcases hk with hk | rfl | hk | hk | hk | hk
 ·exact h.mill.foot_lt k hk
 ·exact zaa h.head
 ·rcases hk with rfl | hk
  ·exact h.disk.lt
  ·exact row_lt h.disk.row k hk
 ·exact row_lt h.may k hk
 ·exact row_lt h.told k hk
 ·exact (ref_lt h.ref k hk).2
theorem PD.at.kept {f : Nat -> Prop} {w' : World} (h : p.at w) (hk : zan f w w') (hn : ∀ k, p.foot k -> ¬ f k) : p.at w' :=
 ⟨hk.heap h.head (hn _ (.inr (.inl rfl))), h.mill.kept hk (fun k e => hn k (.inl e)), h.disk.kept hk (fun k e => hn k (.inr (.inr (.inl e)))), zae h.may hk (fun k e => hn k (.inr (.inr (.inr (.inl e))))), zae h.told hk (fun k e => hn k (.inr (.inr (.inr (.inr (.inl e)))))), h.ref.kept hk (fun k e => hn k (.inr (.inr (.inr (.inr (.inr e)))))), h.hap, h.sim, h.twf, h.apart⟩
theorem PD.at.later {w' : World} (h : p.at w) (hb : Below w.heap.size w w') : p.at w' := h.kept (f := fun _ => False) (zan.of_below hb) (fun _ _ e => e)
theorem PD.at.disk_apart (h : p.at w) : ∀ k, Go.Proofs.YtpbimdkclnekeaaGreat.zen p.d p.fs k -> k ≠ p.po /\ ¬ p.td.ownBlock = some k := fun k hk => by
 have hh := h.head
 unfold zay at hh
 have ho : ∃ cs tt, w.heap[k]? = some (.cells cs tt (0, 0)) /\ (tt = 119 \/ tt = 185) := by
  rcases hk with rfl | hk
  ·exact ⟨_, _, h.disk.head, .inl rfl⟩
  ·obtain ⟨cur, hc⟩ := zbp h.disk.row hk; exact ⟨_, _, hc, .inr rfl⟩
 obtain ⟨cs, tt, hc, ht⟩ := ho
 refine ⟨fun e => ?_, fun e => ?_⟩
 ·rw [e, hh] at hc
  injection hc with hc; injection hc with _ hc
  rcases ht with ht | ht <;> rw [ht] at hc <;> exact absurd hc (by decide)
 ·obtain ⟨cur, hc2⟩ := zbp h.told e
  rw [hc2] at hc
  injection hc with hc; injection hc with _ hc
  rcases ht with ht | ht <;> rw [ht] at hc <;> exact absurd hc (by decide)
def PD.wr (p : PD) (k : Nat) : Prop := zcz p.i k \/ k = p.po \/ p.td.ownBlock = some k
theorem PD.at.step {Z : World} (h : p.at w) {q B' : Nat} {mv' td' rt' nv' pv' gv' kv' : Value} {m' : MS} {rm' : RM} {toks' : List Tok} (hk : zan p.wr w Z)
  (h1 : Z.heap[p.po]? = some (zay p.i.x p.d p.c p.ct mv' td' p.ep)) (h2 : zbb Z p.i p.c p.ep m') (h3 : Z.ownsRow 0 108 1 mv' 1 [.pointer (some ⟨q, 0, none⟩)]) (h3' : ∀ k, mv'.ownBlock = some k -> w.heap.size <= k)
  (h4 : Z.ownsRow 0 49 2 td' toks'.length (toks'.flatMap tkV2)) (h4' : ∀ k, td'.ownBlock = some k -> p.td.ownBlock = some k \/ w.heap.size <= k) (h5 : zbk B' Z q rm' rt' nv' pv' gv' kv') (h5' : ∀ k, rfoot q rt' nv' pv' gv' kv' k -> rfoot p.r p.rt p.nv p.pv p.gv p.kv k \/ w.heap.size <= k) (h6 : ∀ k, pv'.ownBlock = some k -> ¬ gv'.ownBlock = some k)
  (h7 : zed p.c p.ep m' rm') (h8 : ∀ t ∈ toks', t.wf) :
  PD.at ⟨p.po, p.d, q, p.i, p.c, p.ct, mv', td', p.fs, p.ep, m', toks', p.B0, B', rm', rt', nv', pv', gv', kv'⟩ Z /\ (∀ k, PD.foot ⟨p.po, p.d, q, p.i, p.c, p.ct, mv', td', p.fs, p.ep, m', toks', p.B0, B', rm', rt', nv', pv', gv', kv'⟩ k -> p.foot k \/ w.heap.size <= k) /\ zan p.foot w Z := by
 have hfl := h.mill.foot_lt
 refine ⟨⟨h1, h2, h.disk.kept hk (fun k e hf => ?_), h3, h4, h5, h6, h7, h8, fun k hk => ?_⟩, fun k hk => ?_, hk.mono (fun k _ hf => ?_)⟩
 ·obtain ⟨a1, a2⟩ := h.disk_apart k e
  rcases hf with hf | hf | hf
  ·exact h.apart k (.inr (.inl e)) hf
  ·exact a1 hf
  ·exact a2 hf
 ·rcases hk with rfl | hk | hk | hk | hk
  ·exact h.apart _ (.inl rfl)
  ·exact h.apart _ (.inr (.inl hk))
  ·exact fun e => by have := hfl k e; have := h3' k hk; omega
  ·rcases h4' k hk with hk | hk
   ·exact h.apart _ (.inr (.inr (.inr (.inl hk))))
   ·exact fun e => by have := hfl k e; omega
  ·rcases h5' k hk with hk | hk
   ·exact h.apart _ (.inr (.inr (.inr (.inr hk))))
   ·exact fun e => by have := hfl k e; omega
 ·rcases hk with hk | rfl | hk | hk | hk | hk
  ·exact .inl (.inl hk)
  ·exact .inl (.inr (.inl rfl))
  ·exact .inl (.inr (.inr (.inl hk)))
  ·exact .inr (h3' k hk)
  ·rcases h4' k hk with hk | hk
   ·exact .inl (.inr (.inr (.inr (.inr (.inl hk)))))
   ·exact .inr hk
  ·rcases h5' k hk with hk | hk
   ·exact .inl (.inr (.inr (.inr (.inr (.inr hk)))))
   ·exact .inr hk
 ·rcases hf with hf | hf | hf
  ·exact .inl hf
  ·exact .inr (.inl hf)
  ·exact .inr (.inr (.inr (.inr (.inl hf))))
end
theorem zdq {w : World} {po x d : Nat} {c : Cf} {ct mv td : Value} {ep : Int} (h : w.heap[po]? = some (zay x d c ct mv td ep)) {B size n : Nat} {e : TypeId} {v : Value} {xs : List Value} (hr : w.ownsRow B e size v n xs) (he : e ≠ 106) (hv : v.ownBlock = some po) : False := by
 obtain ⟨cur, hc⟩ := zbp hr hv
 unfold zay at h
 rw [h] at hc
 injection hc with hc; injection hc with _ hc
 exact he hc.symm
set_option maxRecDepth 8000 in
set_option maxHeartbeats 8000000 in
theorem changed_no (p : PD) {w : World} (h : p.at w) (o : Ops) (kk : Int) (hkk : (kk == 6) = false) (t : Tok)
  (HT : ∀ V, Below w.heap.size w V -> Calls Tryz.prog 102 #[.pointer (some ⟨p.po, 0, none⟩), .agg #[int i64 kk, int i64 o.on, int i64 o.a, int i64 o.b, int i64 o.c, .int .i32 o.v, int i64 o.te, int i64 o.tn, int i64 o.fs, int i64 o.fle, int i64 o.fla, int i64 o.fwi, int i64 o.fke, int i64 o.fqu, .slice o.fa o.fn o.fcap]] V fun e V' => e = .returned (.agg #[int i64 t.ep, int i64 t.num]) /\ Below V.heap.size V V')
  (Ans : Tk -> Int -> MS -> Prop)
  (HC : ∀ V, Below w.heap.size w V -> Calls Tryz.prog 103 #[.pointer (some ⟨p.po, 0, none⟩), .agg #[int i64 kk, int i64 o.on, int i64 o.a, int i64 o.b, int i64 o.c, .int .i32 o.v, int i64 t.ep, int i64 t.num, int i64 o.fs, int i64 o.fle, int i64 o.fla, int i64 o.fwi, int i64 o.fke, int i64 o.fqu, .slice o.fa o.fn o.fcap], .agg #[int i64 t.ep, int i64 t.num]] V fun e V' => ∃ (jb : Tk) (cd : Int) (m' : MS), e = .returned (.tuple #[tkA jb, int i64 cd]) /\ zbb V' p.i p.c p.ep m' /\ zan (zcz p.i) V V' /\ Ans jb cd m')
  (HD : ∀ jb cd m', Ans jb cd m' -> ∃ rm', zed p.c p.ep m' rm' /\ ∀ B q V tv nv pv gv kv, zbk B V q p.rm tv nv pv gv kv -> (∀ k, pv.ownBlock = some k -> ¬ gv.ownBlock = some k) -> B <= V.heap.size -> Calls Tryz.prog 105 #[.pointer (some ⟨q, 0, none⟩), .agg #[int i64 kk, int i64 o.on, int i64 o.a, int i64 o.b, int i64 o.c, .int .i32 o.v, int i64 t.ep, int i64 t.num, int i64 o.fs, int i64 o.fle, int i64 o.fla, int i64 o.fwi, int i64 o.fke, int i64 o.fqu, .slice o.fa o.fn o.fcap], .agg #[int i64 t.ep, int i64 t.num]] V fun e V' => e = .returned (.tuple #[tkA jb, int i64 cd]) /\ refPost B V q rm' tv nv pv gv kv V')
  (H13 : ∀ jb cd m', Ans jb cd m' -> ¬ cd = 13) :
  Calls Tryz.prog 55 #[.pointer (some ⟨p.po, 0, none⟩), .agg #[int i64 kk, int i64 o.on, int i64 o.a, int i64 o.b, int i64 o.c, .int .i32 o.v, int i64 o.te, int i64 o.tn, int i64 o.fs, int i64 o.fle, int i64 o.fla, int i64 o.fwi, int i64 o.fke, int i64 o.fqu, .slice o.fa o.fn o.fcap]] w fun e w' => e = .returned (.bool true) /\ ∃ p' : PD, p'.at w' /\ p'.po = p.po /\ p'.i = p.i /\ p'.c = p.c /\ p'.ep = p.ep /\ p'.toks.length <= p.toks.length + 1 /\ (∃ jb cd, Ans jb cd p'.m) /\ (∀ k, p'.foot k -> p.foot k \/ w.heap.size <= k) /\ zan p.foot w w' := by
 have H := zab h
 obtain ⟨po, d, r, i, c, ct, mv, td, fs, ep, m, toks, B0, B1, rm, rt, nv, pv, gv, kv⟩ := p
 dsimp only at HT HC HD ⊢
 have hhead : w.heap[po]? = some (zay i.x d c ct mv td ep) := h.head
 have hmill : zbb w i c ep m := h.mill
 have hdisk : zaw 119 185 B0 w d opS2 fs := h.disk
 have hmay : w.ownsRow 0 108 1 mv 1 [.pointer (some ⟨r, 0, none⟩)] := h.may
 have htold : w.ownsRow 0 49 2 td toks.length (toks.flatMap tkV2) := h.told
 have href : zbk B1 w r rm rt nv pv gv kv := h.ref
 have hap : ∀ k, k = po \/ zen d fs k \/ mv.ownBlock = some k \/ td.ownBlock = some k \/ rfoot r rt nv pv gv kv k -> ¬ zcz i k := h.apart
 have hsim : zed c ep m rm := h.sim
 have hpl := zaa hhead
 have hfl := hmill.foot_lt
 have hpn : ¬ zcz i po := hap _ (.inl rfl)
 have hb0 : Below w.heap.size w (w.alloc (.cells #[int i64 kk, int i64 o.on, int i64 o.a, int i64 o.b, int i64 o.c, .int .i32 o.v, int i64 o.te, int i64 o.tn, int i64 o.fs, int i64 o.fle, int i64 o.fla, int i64 o.fwi, int i64 o.fke, int i64 o.fqu, .slice o.fa o.fn o.fcap] 68)) := (Below.refl _ _).alloc (Nat.le_refl _) _
 have HO0 := zab (zap w (.cells #[int i64 kk, int i64 o.on, int i64 o.a, int i64 o.b, int i64 o.c, .int .i32 o.v, int i64 o.te, int i64 o.tn, int i64 o.fs, int i64 o.fle, int i64 o.fla, int i64 o.fwi, int i64 o.fke, int i64 o.fqu, .slice o.fa o.fn o.fcap] 68))
 have hz0 := zbd w (.cells #[int i64 kk, int i64 o.on, int i64 o.a, int i64 o.b, int i64 o.c, .int .i32 o.v, int i64 o.te, int i64 o.tn, int i64 o.fs, int i64 o.fle, int i64 o.fla, int i64 o.fwi, int i64 o.fke, int i64 o.fqu, .slice o.fa o.fn o.fcap] 68)
 have HT0 := zab (HT _ hb0)
 have HCC := zab HC
 have HDD := zab HD
 have H13' := zab H13
 have HHD := zab hhead
 have HML := zab hmill
 have HDK := zab hdisk
 have HMY0 := zab hmay
 have HTD := zab htold
 have HRF := zab href
 have HAP := zab hap
 have HSM := zab hsim
 have HFL := zab hfl
 clear HT HC HD H13 h hmill hdisk hmay htold href hap hsim hfl hhead
 go_enter Tryz.func55, Tryz.ntmps55
 go_wp2_with fail
 generalize (w.alloc (.cells #[int i64 kk, int i64 o.on, int i64 o.a, int i64 o.b, int i64 o.c, .int .i32 o.v, int i64 o.te, int i64 o.tn, int i64 o.fs, int i64 o.fle, int i64 o.fla, int i64 o.fwi, int i64 o.fke, int i64 o.fqu, .slice o.fa o.fn o.fcap] 68)) = X0 at *
 refine (ud HT0).mono ?_
 rintro e w1 ⟨rfl, hb1⟩
 have hw1 := hb0.trans (hb1.mono hb0.size)
 have Ha := (hb1.block w.heap.size (by omega)).trans (ud HO0)
 have a0 : w1.cell? ⟨w.heap.size, 0, none⟩ = some (int i64 kk) := by rw [zac Ha]; rfl
 have a1 : w1.cell? ⟨w.heap.size, 1, none⟩ = some (int i64 o.on) := by rw [zac Ha]; rfl
 have a2 : w1.cell? ⟨w.heap.size, 2, none⟩ = some (int i64 o.a) := by rw [zac Ha]; rfl
 have a3 : w1.cell? ⟨w.heap.size, 3, none⟩ = some (int i64 o.b) := by rw [zac Ha]; rfl
 have a4 : w1.cell? ⟨w.heap.size, 4, none⟩ = some (int i64 o.c) := by rw [zac Ha]; rfl
 have a5 : w1.cell? ⟨w.heap.size, 5, none⟩ = some (.int .i32 o.v) := by rw [zac Ha]; rfl
 have a6 : w1.cell? ⟨w.heap.size, 6, none⟩ = some (int i64 o.te) := by rw [zac Ha]; rfl
 have a7 : w1.cell? ⟨w.heap.size, 7, none⟩ = some (int i64 o.tn) := by rw [zac Ha]; rfl
 have a8 : w1.cell? ⟨w.heap.size, 8, none⟩ = some (int i64 o.fs) := by rw [zac Ha]; rfl
 have a9 : w1.cell? ⟨w.heap.size, 9, none⟩ = some (int i64 o.fle) := by rw [zac Ha]; rfl
 have a10 : w1.cell? ⟨w.heap.size, 10, none⟩ = some (int i64 o.fla) := by rw [zac Ha]; rfl
 have a11 : w1.cell? ⟨w.heap.size, 11, none⟩ = some (int i64 o.fwi) := by rw [zac Ha]; rfl
 have a12 : w1.cell? ⟨w.heap.size, 12, none⟩ = some (int i64 o.fke) := by rw [zac Ha]; rfl
 have a13 : w1.cell? ⟨w.heap.size, 13, none⟩ = some (int i64 o.fqu) := by rw [zac Ha]; rfl
 have a14 : w1.cell? ⟨w.heap.size, 14, none⟩ = some (.slice o.fa o.fn o.fcap) := by rw [zac Ha]; rfl
 have af := fun j => zaz Ha j
 have hq1 := zaa Ha
 have HA := zab Ha
 have HW1 := zab hw1
 clear Ha hw1 hb1 hb0 HT0 HO0 hz0
 go_wp2_with fail
 have hs1 : ((w1.setCell ⟨w.heap.size, 6, none⟩ (int i64 t.ep)).setCell ⟨w.heap.size, 7, none⟩ (int i64 t.num)).heap[w.heap.size]? = some (.cells #[int i64 kk, int i64 o.on, int i64 o.a, int i64 o.b, int i64 o.c, .int .i32 o.v, int i64 t.ep, int i64 t.num, int i64 o.fs, int i64 o.fle, int i64 o.fla, int i64 o.fwi, int i64 o.fke, int i64 o.fqu, .slice o.fa o.fn o.fcap] 68 (0, 0)) := zbz (i := 7) (zbz (i := 6) (ud HA) _) _
 have hw1z := (ud HW1).size
 have hwX : Below w.heap.size w (((w1.setCell ⟨w.heap.size, 6, none⟩ (int i64 t.ep)).setCell ⟨w.heap.size, 7, none⟩ (int i64 t.num)).alloc (.cells #[int i64 t.ep, int i64 t.num] 49)) := (((ud HW1).setCell (p := ⟨w.heap.size, 6, none⟩) (Nat.le_refl _) _).setCell (p := ⟨w.heap.size, 7, none⟩) (Nat.le_refl _) _).alloc (by simpa [World.setCell] using hw1z) _
 have hsz : ((w1.setCell ⟨w.heap.size, 6, none⟩ (int i64 t.ep)).setCell ⟨w.heap.size, 7, none⟩ (int i64 t.num)).heap.size = w1.heap.size := by simp [World.setCell]
 have HOX := zab ((Below.heap_alloc _ (.cells #[int i64 t.ep, int i64 t.num] 49) _ (zaa hs1)).trans hs1)
 have htX := zap ((w1.setCell ⟨w.heap.size, 6, none⟩ (int i64 t.ep)).setCell ⟨w.heap.size, 7, none⟩ (int i64 t.num)) (.cells #[int i64 t.ep, int i64 t.num] 49)
 rw [hsz] at htX
 have HTX := zab htX
 have hXz : (((w1.setCell ⟨w.heap.size, 6, none⟩ (int i64 t.ep)).setCell ⟨w.heap.size, 7, none⟩ (int i64 t.num)).alloc (.cells #[int i64 t.ep, int i64 t.num] 49)).heap.size = w1.heap.size + 1 := by rw [zbd, hsz]
 have HCA := zab (ud HCC _ hwX)
 have HWX := zab hwX
 have HXZ := zab hXz
 clear a0 a1 a2 a3 a4 a5 a6 a7 a8 a9 a10 a11 a12 a13 a14 af hs1 hsz htX hwX hXz hw1z HCC
 generalize (((w1.setCell ⟨w.heap.size, 6, none⟩ (int i64 t.ep)).setCell ⟨w.heap.size, 7, none⟩ (int i64 t.num)).alloc (.cells #[int i64 t.ep, int i64 t.num] 49)) = X at *
 refine (ud HCA).mono ?_
 rintro e V ⟨jb, cd, m', rfl, hmV, hkV, hans⟩
 obtain ⟨rm', hsim', hdone⟩ := ud HDD jb cd m' hans
 have hcd13 : (cd == 13) = false := by simpa using ud H13' jb cd m' hans
 have HMV := zab hmV
 have HKV := zab hkV
 have HANS := zab hans
 have HSIM := zab hsim'
 have HDONE := zab hdone
 have hlo : ∀ k, zcz i k -> k < w.heap.size := ud HFL
 have hn0 : ¬ zcz i w.heap.size := fun e => by have := hlo _ e; omega
 have hw1z := (ud HW1).size
 have hn1 : ¬ zcz i w1.heap.size := fun e => by have := hlo _ e; omega
 clear hmV hkV HCA hans hsim' hdone HDD H13'
 have hkwV : zan (zcz i) w V := (zan.of_below (ud HWX)).trans (ud HKV) (fun _ _ h => h)
 have hkwY : zan (zcz i) w (V.alloc (.cells #[int i64 jb.kind, int i64 jb.s.t, int i64 jb.s.ser, int i64 jb.s.win, int i64 jb.since, int i64 jb.tries, int i64 jb.rest, int i64 jb.ep, int i64 jb.num, int i64 jb.slot, int i64 jb.till] 51)) := hkwV.alloc _
 have hVY : Below V.heap.size V (V.alloc (.cells #[int i64 jb.kind, int i64 jb.s.t, int i64 jb.s.ser, int i64 jb.s.win, int i64 jb.since, int i64 jb.tries, int i64 jb.rest, int i64 jb.ep, int i64 jb.num, int i64 jb.slot, int i64 jb.till] 51)) := (Below.refl _ _).alloc (Nat.le_refl _) _
 have hpV := hkwV.heap (ud HHD) hpn
 have p1 : V.cell? ⟨po, 1, none⟩ = some (.pointer (some ⟨d, 0, none⟩)) := by unfold zay at hpV; rw [zac hpV]; rfl
 have hpVl := zaa hpV
 have HDY := zab ((ud HDK).kept hkwY (fun k hk => ud HAP k (.inr (.inl hk))))
 have HSTP := zab (zet B0 d opS2 fs _ (ud HDY))
 rw [show zas opS2 = false from rfl] at HSTP
 have HRY := zab ((ud HRF).kept hkwY (fun k hk => ud HAP k (.inr (.inr (.inr (.inr hk))))))
 have HVY := zab (zae (ud HMY0) hkwY (fun k hk => ud HAP k (.inr (.inr (.inl hk)))))
 have HTY0 := zab (zae (ud HTD) hkwY (fun k hk => ud HAP k (.inr (.inr (.inr (.inl hk))))))
 have HMY := zab ((ud HMV).later hVY)
 have HPY := zab (hkwY.heap (ud HHD) hpn)
 have HKY := zab hkwY
 have HOY := zab ((Below.heap_alloc _ (.cells #[int i64 jb.kind, int i64 jb.s.t, int i64 jb.s.ser, int i64 jb.s.win, int i64 jb.since, int i64 jb.tries, int i64 jb.rest, int i64 jb.ep, int i64 jb.num, int i64 jb.slot, int i64 jb.till] 51) _ (zaa ((ud HKV).heap (ud HOX) hn0))).trans ((ud HKV).heap (ud HOX) hn0))
 have HTY := zab ((Below.heap_alloc _ (.cells #[int i64 jb.kind, int i64 jb.s.t, int i64 jb.s.ser, int i64 jb.s.win, int i64 jb.since, int i64 jb.tries, int i64 jb.rest, int i64 jb.ep, int i64 jb.num, int i64 jb.slot, int i64 jb.till] 51) _ (zaa ((ud HKV).heap (ud HTX) hn1))).trans ((ud HKV).heap (ud HTX) hn1))
 have HJY := zab (zap V (.cells #[int i64 jb.kind, int i64 jb.s.t, int i64 jb.s.ser, int i64 jb.s.win, int i64 jb.since, int i64 jb.tries, int i64 jb.rest, int i64 jb.ep, int i64 jb.num, int i64 jb.slot, int i64 jb.till] 51))
 have hVz : (V.alloc (.cells #[int i64 jb.kind, int i64 jb.s.t, int i64 jb.s.ser, int i64 jb.s.win, int i64 jb.since, int i64 jb.tries, int i64 jb.rest, int i64 jb.ep, int i64 jb.num, int i64 jb.slot, int i64 jb.till] 51)).heap.size = V.heap.size + 1 := zbd _ _
 have hwV := hkwV.size
 clear hkwV hkwY hVY hpV
 go_wp2_with fail
 have HVZ := zab hVz
 clear p1 hpVl hVz
 generalize (V.alloc (.cells #[int i64 jb.kind, int i64 jb.s.t, int i64 jb.s.ser, int i64 jb.s.win, int i64 jb.since, int i64 jb.tries, int i64 jb.rest, int i64 jb.ep, int i64 jb.num, int i64 jb.slot, int i64 jb.till] 51)) = Y at *
 refine (ud HSTP).mono ?_
 rintro e Y1 ⟨rfl, hY1⟩
 rw [hY1]
 clear hY1 HSTP
 obtain ⟨mb, mcap, hmv, _, hmbl⟩ := (ud HVY).form (by omega)
 have hpY := ud HPY
 have p13 : Y.cell? ⟨po, 13, none⟩ = some (.bool false) := by unfold zay at hpY; rw [zac hpY]; rfl
 have p9 : Y.cell? ⟨po, 9, none⟩ = some (.slice (some ⟨mb, 0, none⟩) 1 mcap) := by unfold zay at hpY; rw [zac hpY, hmv]; rfl
 have hmb : Y.cell? ⟨mb, 0, none⟩ = some (.pointer (some ⟨r, 0, none⟩)) := by
  have := ud HVY
  rw [hmv] at this
  rw [this.cellAt 0 (by omega)]; rfl
 clear hpY
 go_wp2_with fail
 refine wp_loop_rounds 2 ?_
 rw [rounds_succ]
 have HCP := zab (rcopy_any (ud HRY) (ud HSM).hokr (by have := (ud HSM).len; omega) (by have := (ud HSM).glen; omega) (by have := (ud HSM).plen; omega) (by have := (ud HSM).klen; omega))
 go_wp2_with fail
 refine (ud HCP).mono ?_
 rintro e Z ⟨q, rfl, rt2, nv2, pv2, gv2, kv2, hr2, hb2, hap2⟩
 have hoZ := (hb2.block w.heap.size (zaa (ud HOY))).trans (ud HOY)
 have htZ := (hb2.block w1.heap.size (zaa (ud HTY))).trans (ud HTY)
 have o0 : Z.cell? ⟨w.heap.size, 0, none⟩ = some (int i64 kk) := by rw [zac hoZ]; rfl
 have o1 : Z.cell? ⟨w.heap.size, 1, none⟩ = some (int i64 o.on) := by rw [zac hoZ]; rfl
 have o2 : Z.cell? ⟨w.heap.size, 2, none⟩ = some (int i64 o.a) := by rw [zac hoZ]; rfl
 have o3 : Z.cell? ⟨w.heap.size, 3, none⟩ = some (int i64 o.b) := by rw [zac hoZ]; rfl
 have o4 : Z.cell? ⟨w.heap.size, 4, none⟩ = some (int i64 o.c) := by rw [zac hoZ]; rfl
 have o5 : Z.cell? ⟨w.heap.size, 5, none⟩ = some (.int .i32 o.v) := by rw [zac hoZ]; rfl
 have o6 : Z.cell? ⟨w.heap.size, 6, none⟩ = some (int i64 t.ep) := by rw [zac hoZ]; rfl
 have o7 : Z.cell? ⟨w.heap.size, 7, none⟩ = some (int i64 t.num) := by rw [zac hoZ]; rfl
 have o8 : Z.cell? ⟨w.heap.size, 8, none⟩ = some (int i64 o.fs) := by rw [zac hoZ]; rfl
 have o9 : Z.cell? ⟨w.heap.size, 9, none⟩ = some (int i64 o.fle) := by rw [zac hoZ]; rfl
 have o10 : Z.cell? ⟨w.heap.size, 10, none⟩ = some (int i64 o.fla) := by rw [zac hoZ]; rfl
 have o11 : Z.cell? ⟨w.heap.size, 11, none⟩ = some (int i64 o.fwi) := by rw [zac hoZ]; rfl
 have o12 : Z.cell? ⟨w.heap.size, 12, none⟩ = some (int i64 o.fke) := by rw [zac hoZ]; rfl
 have o13 : Z.cell? ⟨w.heap.size, 13, none⟩ = some (int i64 o.fqu) := by rw [zac hoZ]; rfl
 have o14 : Z.cell? ⟨w.heap.size, 14, none⟩ = some (.slice o.fa o.fn o.fcap) := by rw [zac hoZ]; rfl
 have t0 : Z.cell? ⟨w1.heap.size, 0, none⟩ = some (int i64 t.ep) := by rw [zac htZ]; rfl
 have t1 : Z.cell? ⟨w1.heap.size, 1, none⟩ = some (int i64 t.num) := by rw [zac htZ]; rfl
 have HDN := zab (ud HDONE Y.heap.size q Z rt2 nv2 pv2 gv2 kv2 hr2 hap2 hb2.size)
 have HRL := zab (ref_lt hr2)
 have HB2 := zab hb2
 have hzY2 := hb2.size
 clear hoZ htZ hr2 hb2 HCP hap2 HDONE
 go_wp2_with fail
 refine (ud HDN).mono ?_
 rintro e U ⟨rfl, hrp⟩
 have hb3 : Below Y.heap.size Z U := hrp.kept.below hzY2 (fun k e => (ud HRL k e).1)
 have hbYU : Below Y.heap.size Y U := (ud HB2).trans hb3
 have hjU := (hbYU.block V.heap.size (zaa (ud HJY))).trans (ud HJY)
 have j0 : U.cell? ⟨V.heap.size, 0, none⟩ = some (int i64 jb.kind) := by rw [zac hjU]; rfl
 have j1 : U.cell? ⟨V.heap.size, 1, none⟩ = some (int i64 jb.s.t) := by rw [zac hjU]; rfl
 have j2 : U.cell? ⟨V.heap.size, 2, none⟩ = some (int i64 jb.s.ser) := by rw [zac hjU]; rfl
 have j3 : U.cell? ⟨V.heap.size, 3, none⟩ = some (int i64 jb.s.win) := by rw [zac hjU]; rfl
 have j4 : U.cell? ⟨V.heap.size, 4, none⟩ = some (int i64 jb.since) := by rw [zac hjU]; rfl
 have j5 : U.cell? ⟨V.heap.size, 5, none⟩ = some (int i64 jb.tries) := by rw [zac hjU]; rfl
 have j6 : U.cell? ⟨V.heap.size, 6, none⟩ = some (int i64 jb.rest) := by rw [zac hjU]; rfl
 have j7 : U.cell? ⟨V.heap.size, 7, none⟩ = some (int i64 jb.ep) := by rw [zac hjU]; rfl
 have j8 : U.cell? ⟨V.heap.size, 8, none⟩ = some (int i64 jb.num) := by rw [zac hjU]; rfl
 have j9 : U.cell? ⟨V.heap.size, 9, none⟩ = some (int i64 jb.slot) := by rw [zac hjU]; rfl
 have j10 : U.cell? ⟨V.heap.size, 10, none⟩ = some (int i64 jb.till) := by rw [zac hjU]; rfl
 have hjl := zaa hjU
 have HR3 := zab hrp
 have HBYU := zab hbYU
 have hm0 : 0 < 1 := by decide
 have hm1 : 0 + 1 <= maxLen := by simp [maxLen]
 have hm2 : (0 + 1) * 8 <= 140737488355328 := by omega
 clear hrp hb3 hbYU hjU HDN o0 o1 o2 o3 o4 o5 o6 o7 o8 o9 o10 o11 o12 o13 o14 t0 t1
 go_wp2_with (first | (at_builtin; refine zbg rfl _ _ 104 rfl 0 108 _ 1 8 Tryz.underlying104 Tryz.infoRefP rfl (by decide) (.slice none 0 0) 0 [] rfl (World.ownsRow_nil _ _ _ _) ⟨U.heap.size + 1, 0, none⟩ 1 1 [.pointer (some ⟨q, 0, none⟩)] rfl rfl (World.news_of_block (cs := #[.pointer (some ⟨q, 0, none⟩)]) (heap_second U _ _)) (by intro u hu; simp at hu; subst hu; rfl) hm0 hm1 hm2 (Nat.zero_le _) ?_; intro g gcap W4 hown4 hold4 hgrow4 hat4 hlt4; have HO4 := zab hown4; have HG4 := zab hgrow4; have HA4 := zab hat4; clear hown4 hold4 hgrow4 hat4) | go_in)
 have hb5 := ((ud HBYU).alloc (ud HBYU).size (.cells #[int i64 jb.kind, int i64 jb.s.t, int i64 jb.s.ser, int i64 jb.s.win, int i64 jb.since, int i64 jb.tries, int i64 jb.rest, int i64 jb.ep, int i64 jb.num, int i64 jb.slot, int i64 jb.till] 51)).alloc (by have := (ud HBYU).size; simp; omega) (.cells #[.pointer (some ⟨q, 0, none⟩)] 108)
 have hg4 : ((U.alloc (.cells #[int i64 jb.kind, int i64 jb.s.t, int i64 jb.s.ser, int i64 jb.s.win, int i64 jb.since, int i64 jb.tries, int i64 jb.rest, int i64 jb.ep, int i64 jb.num, int i64 jb.slot, int i64 jb.till] 51)).alloc (.cells #[.pointer (some ⟨q, 0, none⟩)] 108)).grownBy W4 none := ud HG4
 have hbYW : Below Y.heap.size Y W4 := hb5.grown hg4 hb5.size (fun k e => by cases e)
 have hbU : Below U.heap.size U ((U.alloc (.cells #[int i64 jb.kind, int i64 jb.s.t, int i64 jb.s.ser, int i64 jb.s.win, int i64 jb.since, int i64 jb.tries, int i64 jb.rest, int i64 jb.ep, int i64 jb.num, int i64 jb.slot, int i64 jb.till] 51)).alloc (.cells #[.pointer (some ⟨q, 0, none⟩)] 108)) := (box2 U _ _).2.2.1
 have hbUW : Below U.heap.size U W4 := hbU.grown hg4 hbU.size (fun k e => by cases e)
 have hp4 := (hbYW.block po (zaa (ud HPY))).trans (ud HPY)
 have ho4 := (hbYW.block w.heap.size (zaa (ud HOY))).trans (ud HOY)
 have hj4 := (hbYW.block V.heap.size (zaa (ud HJY))).trans (ud HJY)
 have k9 : W4.cell? ⟨po, 9, none⟩ = some (.slice (some ⟨mb, 0, none⟩) 1 mcap) := by have hq := hp4; unfold zay at hq; rw [zac hq, hmv]; rfl
 have k11 : W4.cell? ⟨po, 11, none⟩ = some td := by have hq := hp4; unfold zay at hq; rw [zac hq]; rfl
 have kf4 : ∀ j, W4.frozen? ⟨po, j, none⟩ = false := fun j => by have hq := hp4; unfold zay at hq; exact zaz hq j
 have k0 : W4.cell? ⟨w.heap.size, 0, none⟩ = some (int i64 kk) := by rw [zac ho4]; rfl
 have k7 : W4.cell? ⟨V.heap.size, 7, none⟩ = some (int i64 jb.ep) := by rw [zac hj4]; rfl
 have k8 : W4.cell? ⟨V.heap.size, 8, none⟩ = some (int i64 jb.num) := by rw [zac hj4]; rfl
 have hpo4 := zaa hp4
 have hjl4 := zaa hj4
 have hnp : ¬ w.heap.size = po := by omega
 have hnp2 : ¬ po = w.heap.size := by omega
 have hnj : ¬ V.heap.size = po := by omega
 have hnj2 : ¬ po = V.heap.size := by omega
 have HP4 := zab hp4
 have HBYW := zab hbYW
 have HBUW := zab hbUW
 have hgU : U.heap.size <= g := by
  rcases ud HA4 with h | h
  ·cases h
  ·rw [h]; exact hbU.size
 have hYw : w.heap.size <= Y.heap.size := (ud HKY).size
 have hYU : Y.heap.size <= U.heap.size := (ud HBYU).size
 have hs4 : (W4.setCell ⟨po, 9, none⟩ (.slice (some ⟨g, 0, none⟩) 1 gcap)).heap[po]? = some (zay i.x d c ct (.slice (some ⟨g, 0, none⟩) 1 gcap) td ep) := by
  have hq := ud HP4
  unfold zay at hq ⊢
  exact zbz (i := 9) hq _
 have hkp : zan (fun k => k = po) W4 (W4.setCell ⟨po, 9, none⟩ (.slice (some ⟨g, 0, none⟩) 1 gcap)) := zag (zan.refl _ _) rfl
 have HS4 := zab hs4
 have HKP := zab hkp
 clear hb5 hg4 hbYW hbU hbUW hp4 ho4 hj4 hs4 hkp j0 j1 j2 j3 j4 j5 j6 j7 j8 j9 j10 p13 p9 hmb
 rw [rounds_succ]
 go_wp2_with fail
 go_ret
 have hkW : zan (fun k => zcz i k \/ k = po \/ td.ownBlock = some k) w W4 := ((ud HKY).mono (fun _ _ h => .inl h)).trans (zan.of_below (f := fun _ => False) (ud HBYW)) (fun _ _ h => h.elim)
 have hm4 := (ud HMY).later (ud HBYW)
 have ht4 := zae (ud HTY0) (zan.of_below (f := fun _ => False) (ud HBYW)) (fun _ _ h => h)
 obtain ⟨nv3, pv3, gv3, kv3, hr3, hap3, hk3, hrf3⟩ := ud HR3
 have hr4 := hr3.later (ud HBUW)
 have hz2 : Y.heap.size <= Z.heap.size := (ud HB2).size
 have hrl : ∀ k, rfoot q rt2 nv3 pv3 gv3 kv3 k -> Y.heap.size <= k := fun k hk => by
  rcases hrf3 k hk with h | h
  ·exact (ud HRL k h).1
  ·omega
 have hpoY : po < Y.heap.size := zaa (ud HPY)
 have hZ : zan (fun k => zcz i k \/ k = po \/ td.ownBlock = some k) w (W4.setCell ⟨po, 9, none⟩ (.slice (some ⟨g, 0, none⟩) 1 gcap)) := hkW.trans (ud HKP) (fun k _ e => .inr (.inl e))
 obtain ⟨s1, s2, s3⟩ := (ud H).step (Z := (W4.setCell ⟨po, 9, none⟩ (.slice (some ⟨g, 0, none⟩) 1 gcap))) (q := q) (B' := Y.heap.size) (mv' := .slice (some ⟨g, 0, none⟩) 1 gcap) (td' := td) (m' := m') (rm' := rm') (toks' := toks) hZ (ud HS4)
  (hm4.kept (ud HKP) (fun k hk e => hpn (by rw [<- e]; exact hk))) (zae (ud HO4) (ud HKP) (fun k hk e => by have hg : g = k := Option.some.inj hk; omega)) (fun k hk => by have hg : g = k := Option.some.inj hk; omega)
  (zae ht4 (ud HKP) (fun k hk e => zdq (ud HP4) ht4 (by decide) (e ▸ hk))) (fun k hk => .inl hk) (hr4.kept (ud HKP) (fun k hk e => by have := hrl k hk; omega)) (fun k hk => .inr (by have := hrl k hk; omega)) hap3 (ud HSIM) (ud H).twf
 exact ⟨rfl, _, s1, rfl, rfl, rfl, rfl, Nat.le_succ _, ⟨jb, cd, ud HANS⟩, s2, s3⟩
end Go.Proofs.YtpbimdkclnekeaaGreat
