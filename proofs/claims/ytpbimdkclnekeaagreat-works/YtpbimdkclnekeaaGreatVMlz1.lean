import Derived.Test.YtpbimdkclnekeaaGreatVRefR
open Go.Value (int)
open Go.IntKind (i64)
set_option linter.unusedVariables false
set_option maxRecDepth 20000
set_option maxHeartbeats 4000000
open Go.Proofs.Tryz
namespace Go.Proofs.YtpbimdkclnekeaaGreat
open Go.RowKit Go.Maps Go.Shelf
open Go.ChangeMaps (setBlock)
def yx(u q:Int):Bool:=decide (3*q<4*u)
theorem zlL(v:Value)(w:World):(Instr.typeAssert (.iface 175 v) 92 175 true).run prog w=.ok (.tuple #[v,.bool true]) w:=by kernel_rfl
theorem zlK(v:Value)(w:World):(Instr.typeAssert (.iface 177 v) 92 175 true).run prog w=.ok (.tuple #[.agg #[int i64 0,int i64 0,int i64 0],.bool false]) w:=by kernel_rfl
theorem zlJ(v:Value)(w:World):(Instr.typeAssert (.iface 177 v) 92 177 true).run prog w=.ok (.tuple #[v,.bool true]) w:=by kernel_rfl
theorem KP{w:World}{i:Ids}{c:Cf}{ep:Int}{m:MS}(h:zy w i c ep m)(r:c.ok)(v:0<=xg m.L/\xg m.L<=1000):
  Calls prog 35 #[.pointer (some ⟨i.x,0,none⟩)] w fun e w'=>e=.returned (.bool (yx (xg m.L) c.qu))/\Below w.1.size w w':=by
 obtain⟨a,cap,k,j⟩:=h.ts
 obtain⟨B,C,D,E,F,G,p,-,-,H,-⟩:=h.cells
 rw[k]at p
 have A:=h.lt
 obtain⟨s,t⟩:=r.qu
 have n:=fun W q=>ze (Xj ((h.later (w':=W) q).set) (by unfold yS;omega))
 have l:=fun W=>ze (XK c a cap W)
 obtain⟨y,z⟩:=v
 unfold yx
 generalize xg m.L=U at*
 clear h j
 go_enter func35,ntmps35
 go_wp2_with fail
 have g:Nonempty (zm w.1.size w):=zm.some _ _
 have f:=fun(u:zm w.1.size w) b o h=>u.cell b o h
 refine zh w.1.size (by kernel_rfl) (by kernel_rfl) ?_
 repeat(go_big_quiet_step (first
  |(go_at_call 33;exact Calls.later (Nat.le_refl _) (ud (n _ (Subtype.property _))))
  |(go_at_call 75;exact Calls.later (Nat.le_refl _) (ud (l _)))))
 refine wpQuiet_nil ?_
 rintro⟨I,d⟩
 clear f g
 dsimp only
 go_wp2_with fail
 go_ret
 exact⟨rfl,d⟩
theorem zjj{w:World}{i:Ids}{c:Cf}{ep:Int}{m:MS}(h:zy w i c ep m)(A:c.ok)(s:Sg)(o:inR c s)(k:Nat)(d:s.t=k)(g:m.L.length<=1000000):
  Calls prog 42 #[.pointer (some ⟨i.x,0,none⟩),.iface 175 (.agg #[int i64 s.t,int i64 s.se,int i64 s.we])] w fun e w'=>e=.returned (.tuple #[])/\zy w' i c ep {m with L:=yi m.L s ⟨3,xQ (qk c m.L s.se s.we k)⟩}/\zk (fun k=>k=i.lb) w w':=by
 have l:k<c.n:=by have:=o.2.2.1;omega
 obtain⟨t,se,we⟩:=s
 dsimp only at d ⊢
 subst d
 have a:Below w.1.size w (w.alloc (.cells #[int i64 k,int i64 se,int i64 we] 175)):=(Below.refl _ _).alloc (Nat.le_refl _) _
 have p:=zo w (.cells #[int i64 k,int i64 se,int i64 we] 175)
 have b:=h.later a
 obtain⟨-,-,-,-,-,-,-,-,-,D,-⟩:=b.cells
 have C:=b.lt
 have B:=zd p
 obtain⟨E,F,G,-⟩:=zc p
 have v:=ze (zbf ((b.later (Below.refl _ _).drew).set) A k l se we o.1.2.1 o.2.2.2 g)
 have z:=ze b
 have j:=ze a
 clear h b a p
 have H:=fun w=>zlL (.agg #[int i64 k,int i64 se,int i64 we]) w
 go_enter func42,ntmps42
 go_wp2_with fail
 generalize(w.alloc (.cells #[int i64 k,int i64 se,int i64 we] 175))=X at*
 refine xH 6 (by kernel_rfl) (by kernel_rfl) ?_
 simp only[List.take_succ_cons,List.take_zero,List.drop_succ_cons,List.drop_zero]
 repeat still_step
 refine wpStill_nil ?_
 go_wp2_with(first|(go_at_call 92;refine(ud v).mono ?_;rintro e V ⟨rfl,r,q⟩;have y:=ze r;have u:=ze q;clear r q))
 go_end0
 have d:zk (fun k=>k=i.lb) X V:=(zk.refl (fun k=>k=i.lb) X).drew.trans (ud u) (fun _ _ e=>e)
 exact⟨rfl,(ud z).putSet (ud y) (d.mono (fun k _ e=> .inr (.inr (.inl e)))),(zk.of_below (f:=fun k=>k=i.lb) (ud j)).trans d (fun _ _ e=>e)⟩
theorem zji{w:World}{i:Ids}{c:Cf}{ep:Int}{m:MS}(h:zy w i c ep m)(s:Sg)(y:s.wf)(d:m.Gl.length<=1000000000):
  Calls prog 42 #[.pointer (some ⟨i.x,0,none⟩),.iface 177 (.agg #[int i64 s.t,int i64 s.se,int i64 s.we])] w fun e w'=>e=.returned (.tuple #[])/\zy w' i c ep {m with L:=xt m.L s,Gl:=qt m.Gl s ()}/\zk (fun k=>k=i.lb\/k=i.gb) w w':=by
 have a:Below w.1.size w (w.alloc (.cells #[int i64 s.t,int i64 s.se,int i64 s.we] 177)):=(Below.refl _ _).alloc (Nat.le_refl _) _
 have j:=zo w (.cells #[int i64 s.t,int i64 s.se,int i64 s.we] 177)
 have b:=h.later a
 obtain⟨-,-,-,-,-,-,-,-,-,A,-⟩:=b.cells
 have z:=b.lt
 have v:=zd j
 obtain⟨B,C,D,-⟩:=zc j
 have q:=ze (zbi ((b.later (Below.refl _ _).drew).set) s y d)
 have u:=ze b
 have g:=ze a
 clear h b a j
 have E:=fun w=>zlK (.agg #[int i64 s.t,int i64 s.se,int i64 s.we]) w
 have tb:=fun w=>zlJ (.agg #[int i64 s.t,int i64 s.se,int i64 s.we]) w
 go_enter func42,ntmps42
 go_wp2_with fail
 generalize(w.alloc (.cells #[int i64 s.t,int i64 s.se,int i64 s.we] 177))=X at*
 refine xH 6 (by kernel_rfl) (by kernel_rfl) ?_
 simp only[List.take_succ_cons,List.take_zero,List.drop_succ_cons,List.drop_zero]
 repeat still_step
 refine wpStill_nil ?_
 go_wp2_with(first|(go_at_call 93;refine(ud q).mono ?_;rintro e V ⟨rfl,n,l⟩;have r:=ze n;have p:=ze l;clear n l))
 go_end0
 have o:zk (fun k=>k=i.lb\/k=i.gb) X V:=(zk.refl (fun k=>k=i.lb\/k=i.gb) X).drew.trans (ud p) (fun _ _ e=>e)
 exact⟨rfl,(ud u).putSet (ud r) (o.mono (fun k _ e=> .inr (.inr e))),(zk.of_below (f:=fun k=>k=i.lb\/k=i.gb) (ud g)).trans o (fun _ _ e=>e)⟩
end Go.Proofs.YtpbimdkclnekeaaGreat
