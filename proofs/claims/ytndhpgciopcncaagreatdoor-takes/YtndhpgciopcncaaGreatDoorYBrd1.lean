import Derived.Test.YtndhpgciopcncaaGreatDoorYCnt0
open Go.Value renaming int → I
open Go.IntKind renaming i64 → J
open Nat renaming le_refl → K
open Nat renaming lt_of_lt_of_le → O
open Option renaming some → E
open Option renaming none → Q
open Go.RowKit.Below renaming refl → U
open Go.RowKit renaming Below → Z
set_option linter.unusedVariables false
set_option maxRecDepth 8000
set_option maxHeartbeats 4000000
open Go.Proofs.Tryz
namespace Go.Proofs.YtndhpgciopcncaaGreatDoor
open Go.RowKit Go.Maps Go.Shelf
open Go.ChangeMaps (setBlock)
structure zO(w:World)(b:Nat)(c:Cf)(tv:Value)(ep num:Int)(tb qb:Nat)(TL:List (Jk×Tsk))(QL:List (Tok×Lse)):Prop where
 head:w.1[b]?=E (.cells #[I J c.s,I J c.le,I J c.la,I J c.wi,I J c.ke,I J c.qu,tv,I J ep,I J num,.map (E tb),.map (E qb)] 171 (0,0))
 tk:xj vp w tb TL
 leases:xj yb w qb QL
 apart:tb≠qb
def ZZ(b tb qb:Nat)(k:Nat):Prop:=k=b\/k=tb\/k=qb
section
variable {w w':World} {b:Nat} {c:Cf} {tv:Value} {ep num:Int} {tb qb:Nat} {TL:List (Jk×Tsk)} {QL:List (Tok×Lse)}
theorem zO.lt(h:zO w b c tv ep num tb qb TL QL):b<w.1.size:=zb h.head
theorem zO.kept{f:Nat->Prop}(h:zO w b c tv ep num tb qb TL QL)(a:zk f w w')(hn:∀k,ZZ b tb qb k->¬f k):zO w' b c tv ep num tb qb TL QL:=
 ⟨a.heap h.head (hn b (.inl rfl)),h.tk.kept a (hn tb (.inr (.inl rfl))),h.leases.kept a (hn qb (.inr (.inr rfl))),h.apart⟩
theorem zO.later(h:zO w b c tv ep num tb qb TL QL)(a:Z w.1.size w w'):zO w' b c tv ep num tb qb TL QL:=h.kept (f:=fun _=>False) (zk.of_below a) (fun _ _ d=>d)
theorem zO.foot_lt(h:zO w b c tv ep num tb qb TL QL):∀k,ZZ b tb qb k->k<w.1.size:=fun k a=>by
 rcases a with rfl|rfl|rfl
 ·exact h.lt
 ·exact h.tk.lt
 ·exact h.leases.lt
theorem zO.tb_ne(h:zO w b c tv ep num tb qb TL QL):tb≠b:=fun e=>by
 obtain⟨f,d,a,_⟩:=h.tk;rw[e,h.head]at a;cases a
theorem zO.qb_ne(h:zO w b c tv ep num tb qb TL QL):qb≠b:=fun e=>by
 obtain⟨f,d,a,_⟩:=h.leases;rw[e,h.head]at a;cases a
theorem zO.putTasks(h:zO w b c tv ep num tb qb TL QL){a:List (Jk×Tsk)}(f:xj vp w' tb a)(d:zk (fun k=>k=tb) w w'):zO w' b c tv ep num tb qb a QL:=
 ⟨d.heap h.head (fun e=>h.tb_ne e.symm),f,h.leases.kept d (fun e=>h.apart e.symm),h.apart⟩
theorem zO.cell9(h:zO w b c tv ep num tb qb TL QL):w.cell? ⟨b,9,Q⟩=E (.map (E tb)):=by rw[xd h.head];rfl
theorem zO.cell10(h:zO w b c tv ep num tb qb TL QL):w.cell? ⟨b,10,Q⟩=E (.map (E qb)):=by rw[xd h.head];rfl
end
theorem Q7{w w':World}{b:Nat}{c:Cf}{tv:Value}{ep num:Int}{tb qb:Nat}{TL:List (Jk×Tsk)}{QL:List (Tok×Lse)}(h:zO w b c tv ep num tb qb TL QL)(a:Z w.1.size w w'):Ending.returned (.tuple #[])=.returned (.tuple #[])/\zO w' b c tv ep num tb qb TL QL/\zk (fun k=>k=tb) w w':=⟨rfl,h.later a,zk.of_below a⟩
theorem VB{w V W:World}{b:Nat}{c:Cf}{tv:Value}{ep num:Int}{tb qb:Nat}{TL a:List (Jk×Tsk)}{QL:List (Tok×Lse)}(h:zO w b c tv ep num tb qb TL QL)(d:Z w.1.size w V)(i:xj vp W tb a)(g:zk (fun k=>k=tb) V W):Ending.returned (.tuple #[])=.returned (.tuple #[])/\zO W b c tv ep num tb qb a QL/\zk (fun k=>k=tb) w W:=
 ⟨rfl,(h.later d).putTasks i g,(zk.of_below (f:=fun k=>k=tb) d).trans g (fun _ _ e=>e)⟩
def zew(t:Option Tsk):Value:=match t with
 |none=> .agg #[.nilIface,I J 0,I J 0,I J 0]
 |some x=>zcc x
theorem VU{X:World}{tb:Nat}{TL:List (Jk×Tsk)}(h:xj vp X tb TL){k:Jk}(c:k.wf):(Instr.lookup 169 (.map (E tb)) (.agg #[I J k.kd,I J k.s.t,I J k.s.se,I J k.s.wn]) true).run prog X=.ok (.tuple #[zew (zS TL k),.bool (zS TL k).isSome]) X:=by
 have a:=vl ZQ true h c
 cases b:zS TL k with
 |none=>rw[b]at a;exact a
 |some t=>rw[b]at a;exact a
theorem zdu{X:World}{tb:Nat}{TL:List (Jk×Tsk)}(h:xj vp X tb TL)(b:TL.length<maxLen){s:Sg}(a:(⟨1,s⟩:Jk).wf)(now:Int):
  ∃o,(Instr.mapUpdate 169 (.map (E tb)) (.agg #[I J 1,I J s.t,I J s.se,I J s.wn]) (.agg #[.iface 195 (.agg #[I J s.t,I J s.se,I J s.wn]),I J now,I J 0,I J 0])).run prog X=.ok () (setBlock X tb o)/\xj vp (setBlock X tb o) tb (qI TL ⟨1,s⟩ ⟨true,s,now,0,0⟩)/\zk (fun k=>k=tb) X (setBlock X tb o)/\o.isCells=false:=
 jz ZQ h b a (⟨true,s,now,0,0⟩:Tsk)
theorem zeX{w:World}{b:Nat}{c:Cf}{tv:Value}{ep num:Int}{tb qb:Nat}{TL:List (Jk×Tsk)}{QL:List (Tok×Lse)}(h:zO w b c tv ep num tb qb TL QL)(s:Sg)(R:s.wf)(now:Int)(a1:TL.length<=100000):
  Calls prog 113 #[.pointer (E ⟨b,0,Q⟩),.iface 195 (.agg #[I J s.t,I J s.se,I J s.wn]),I J now] w fun e w'=>e=.returned (.tuple #[])/\zO w' b c tv ep num tb qb (match zS TL ⟨1,s⟩with|some _=>TL|none=>qI TL ⟨1,s⟩ ⟨true,s,now,0,0⟩) QL/\zk (fun k=>k=tb) w w':=by
 have z:(⟨1,s⟩:Jk).wf:=⟨by unfold xR;simp,R⟩
 have i:=h.lt
 have x:=h.cell9
 have v:=fun W=>zd (keyOf_Roll s W)
 have f:=fun X hX=>VU (h.tk.later (w':=X) hX) z
 dsimp only at f
 have u:=zd h
 cases hg:zS TL ⟨1,s⟩with
 |some t=>
  rw[hg]at f
  dsimp only[Option.isSome,zew,zcc]at f
  clear h R
  go_enter func113,ntmps113
  go_wp2_with fail
  go_region_held3 (fun w'=>w'.cell? ⟨b,9,Q⟩=E (.map (E tb))) (go_keep) (first
   |(go_at_call 102;refine(ud (v _)).mono ?_;rintro e g ⟨rfl,d⟩;first|(have a:Z w.1.size w g:=(by first|exact(U w.1.size w).trans (d.mono (K _))|exact((U w.1.size w).drew).trans (d.mono (K _)));have C:=(a.cell (p:=⟨b,9,Q⟩) i).trans x;have m:=O i a.size;have D:=f g a;have F:=fun o=>f (g.alloc o) (a.alloc a.size o);have G:=f g.drew a.drew;have H:=fun o=>f (g.alloc o).drew (a.alloc a.size o).drew;have l:=zd a;clear d a)|(have a:Z w.1.size w g:=(by first|exact((U w.1.size w).drew.alloc (K _) _).trans (d.mono (by simp))|exact(((U w.1.size w).alloc (K _) _).drew).trans (d.mono (by simp)));have n:g.1[w.1.size]?=E (.cells #[.nilIface,I J 0,I J 0,I J 0] 177 (0,0)):=(by first|exact(d.block _ (by simp)).trans (zr w.drew _)|exact(d.block _ (by simp)).trans (zr w _));have u0:g.cell? ⟨w.1.size,0,Q⟩=E .nilIface:=(by rw[xd n];rfl);obtain⟨-,u1,u2,u3,-⟩:=zc n;have uf:=fun j=>zH n j;have T:=zb n;have S:¬b=w.1.size:=(by omega);have A:¬w.1.size=b:=(by omega);have HQ:=zd n;clear n;have C:=(a.cell (p:=⟨b,9,Q⟩) i).trans x;have m:=O i a.size;have D:=f g a;have F:=fun o=>f (g.alloc o) (a.alloc a.size o);have G:=f g.drew a.drew;have H:=fun o=>f (g.alloc o).drew (a.alloc a.size o).drew;have l:=zd a;clear d a)))
  all_goals(go_wp2_with fail)
  all_goals(go_end0;first|exact Q7 (ud u) ((ud l).alloc (ud l).size _)|exact Q7 (ud u) ((ud l).trans (below4 (K _) _ _ _ _)))
 |none=>
  rw[hg]at f
  dsimp only[Option.isSome,zew]at f
  have M:=zd z
  clear h R
  go_enter func113,ntmps113
  go_wp2_with fail
  go_region_held3 (fun w'=>w'.cell? ⟨b,9,Q⟩=E (.map (E tb))) (go_keep) (first
   |(go_at_call 102;refine(ud (v _)).mono ?_;rintro e g ⟨rfl,d⟩;first|(have a:Z w.1.size w g:=(by first|exact(U w.1.size w).trans (d.mono (K _))|exact((U w.1.size w).drew).trans (d.mono (K _)));have C:=(a.cell (p:=⟨b,9,Q⟩) i).trans x;have m:=O i a.size;have D:=f g a;have F:=fun o=>f (g.alloc o) (a.alloc a.size o);have G:=f g.drew a.drew;have H:=fun o=>f (g.alloc o).drew (a.alloc a.size o).drew;have l:=zd a;clear d a)|(have a:Z w.1.size w g:=(by first|exact((U w.1.size w).drew.alloc (K _) _).trans (d.mono (by simp))|exact(((U w.1.size w).alloc (K _) _).drew).trans (d.mono (by simp)));have n:g.1[w.1.size]?=E (.cells #[.nilIface,I J 0,I J 0,I J 0] 177 (0,0)):=(by first|exact(d.block _ (by simp)).trans (zr w.drew _)|exact(d.block _ (by simp)).trans (zr w _));have u0:g.cell? ⟨w.1.size,0,Q⟩=E .nilIface:=(by rw[xd n];rfl);obtain⟨-,u1,u2,u3,-⟩:=zc n;have uf:=fun j=>zH n j;have T:=zb n;have S:¬b=w.1.size:=(by omega);have A:¬w.1.size=b:=(by omega);have HQ:=zd n;clear n;have C:=(a.cell (p:=⟨b,9,Q⟩) i).trans x;have m:=O i a.size;have D:=f g a;have F:=fun o=>f (g.alloc o) (a.alloc a.size o);have G:=f g.drew a.drew;have H:=fun o=>f (g.alloc o).drew (a.alloc a.size o).drew;have l:=zd a;clear d a)))
  all_goals(go_wp2_with fail)
  all_goals clear D F G H f x m
  all_goals(first
   |(show Code.wp _ _ _ _ (World.alloc g _);have y:=(ud l).alloc (ud l).size (.cells #[.nilIface,I J 0,I J 0,I J 0] 177);generalize(g.alloc (.cells #[.nilIface,I J 0,I J 0,I J 0] 177))=Y at*)
   |(have y:=(ud l).trans (below4 (w:=g) (K w.1.size) .nilIface (I J 0) (I J 0) (I J 0));generalize((((g.setCell ⟨w.1.size,0,Q⟩ .nilIface).setCell ⟨w.1.size,1,Q⟩ (I J 0)).setCell ⟨w.1.size,2,Q⟩ (I J 0)).setCell ⟨w.1.size,3,Q⟩ (I J 0))=Y at*))
  all_goals(have x:=(y.cell (p:=⟨b,9,Q⟩) i).trans (ud u).cell9;have a0:=O i y.size;have B:=zd y;clear y C l)
  all_goals(go_region_held3 (fun w'=>w'.cell? ⟨b,9,Q⟩=E (.map (E tb))) (go_keep) (first
   |(go_at_call 102;refine(ud (v _)).mono ?_;rintro e V ⟨rfl,r⟩;have q:Z w.1.size w V:=(by first|exact(ud B).trans (r.mono (ud B).size)|exact(ud B).drew.trans (r.mono (ud B).size));have m9:=(q.cell (p:=⟨b,9,Q⟩) i).trans (ud u).cell9;obtain⟨o,a2,hm,P,ho⟩:=zdu ((ud u).tk.later q) (by simp only[maxLen];omega) (ud M) now;have n9:(setBlock V tb o).cell? ⟨b,9,Q⟩=E (.map (E tb)):=(by have hh:=P.heap ((ud u).later q).head (fun e=>(ud u).tb_ne e.symm);rw[xd hh];rfl);have N:=zd q;have HM:=zd hm;have L:=zd P;clear r q hm P))
  )
  all_goals(go_wp2_with fail)
  all_goals(go_end0;exact VB (ud u) (ud N) (ud HM) (ud L))
theorem Vj{X:World}{tb:Nat}{TL:List (Jk×Tsk)}(h:xj vp X tb TL)(b:TL.length<maxLen){s:Sg}(a:(⟨2,s⟩:Jk).wf)(now:Int):
  ∃o,(Instr.mapUpdate 169 (.map (E tb)) (.agg #[I J 2,I J s.t,I J s.se,I J s.wn]) (.agg #[.iface 197 (.agg #[I J s.t,I J s.se,I J s.wn]),I J now,I J 0,I J 0])).run prog X=.ok () (setBlock X tb o)/\xj vp (setBlock X tb o) tb (qI TL ⟨2,s⟩ ⟨false,s,now,0,0⟩)/\zk (fun k=>k=tb) X (setBlock X tb o)/\o.isCells=false:=
 jz ZQ h b a (⟨false,s,now,0,0⟩:Tsk)
theorem J9{w:World}{b:Nat}{c:Cf}{tv:Value}{ep num:Int}{tb qb:Nat}{TL:List (Jk×Tsk)}{QL:List (Tok×Lse)}(h:zO w b c tv ep num tb qb TL QL)(s:Sg)(R:s.wf)(now:Int)(a1:TL.length<=100000):
  Calls prog 113 #[.pointer (E ⟨b,0,Q⟩),.iface 197 (.agg #[I J s.t,I J s.se,I J s.wn]),I J now] w fun e w'=>e=.returned (.tuple #[])/\zO w' b c tv ep num tb qb (match zS TL ⟨2,s⟩with|some _=>TL|none=>qI TL ⟨2,s⟩ ⟨false,s,now,0,0⟩) QL/\zk (fun k=>k=tb) w w':=by
 have z:(⟨2,s⟩:Jk).wf:=⟨by unfold xR;simp,R⟩
 have i:=h.lt
 have x:=h.cell9
 have v:=fun W=>zd (keyOf_Reclaim s W)
 have f:=fun X hX=>VU (h.tk.later (w':=X) hX) z
 dsimp only at f
 have u:=zd h
 cases hg:zS TL ⟨2,s⟩with
 |some t=>
  rw[hg]at f
  dsimp only[Option.isSome,zew,zcc]at f
  clear h R
  go_enter func113,ntmps113
  go_wp2_with fail
  go_region_held3 (fun w'=>w'.cell? ⟨b,9,Q⟩=E (.map (E tb))) (go_keep) (first
   |(go_at_call 102;refine(ud (v _)).mono ?_;rintro e g ⟨rfl,d⟩;first|(have a:Z w.1.size w g:=(by first|exact(U w.1.size w).trans (d.mono (K _))|exact((U w.1.size w).drew).trans (d.mono (K _)));have C:=(a.cell (p:=⟨b,9,Q⟩) i).trans x;have m:=O i a.size;have D:=f g a;have F:=fun o=>f (g.alloc o) (a.alloc a.size o);have G:=f g.drew a.drew;have H:=fun o=>f (g.alloc o).drew (a.alloc a.size o).drew;have l:=zd a;clear d a)|(have a:Z w.1.size w g:=(by first|exact((U w.1.size w).drew.alloc (K _) _).trans (d.mono (by simp))|exact(((U w.1.size w).alloc (K _) _).drew).trans (d.mono (by simp)));have n:g.1[w.1.size]?=E (.cells #[.nilIface,I J 0,I J 0,I J 0] 177 (0,0)):=(by first|exact(d.block _ (by simp)).trans (zr w.drew _)|exact(d.block _ (by simp)).trans (zr w _));have u0:g.cell? ⟨w.1.size,0,Q⟩=E .nilIface:=(by rw[xd n];rfl);obtain⟨-,u1,u2,u3,-⟩:=zc n;have uf:=fun j=>zH n j;have T:=zb n;have S:¬b=w.1.size:=(by omega);have A:¬w.1.size=b:=(by omega);have HQ:=zd n;clear n;have C:=(a.cell (p:=⟨b,9,Q⟩) i).trans x;have m:=O i a.size;have D:=f g a;have F:=fun o=>f (g.alloc o) (a.alloc a.size o);have G:=f g.drew a.drew;have H:=fun o=>f (g.alloc o).drew (a.alloc a.size o).drew;have l:=zd a;clear d a)))
  all_goals(go_wp2_with fail)
  all_goals(go_end0;first|exact Q7 (ud u) ((ud l).alloc (ud l).size _)|exact Q7 (ud u) ((ud l).trans (below4 (K _) _ _ _ _)))
 |none=>
  rw[hg]at f
  dsimp only[Option.isSome,zew]at f
  have M:=zd z
  clear h R
  go_enter func113,ntmps113
  go_wp2_with fail
  go_region_held3 (fun w'=>w'.cell? ⟨b,9,Q⟩=E (.map (E tb))) (go_keep) (first
   |(go_at_call 102;refine(ud (v _)).mono ?_;rintro e g ⟨rfl,d⟩;first|(have a:Z w.1.size w g:=(by first|exact(U w.1.size w).trans (d.mono (K _))|exact((U w.1.size w).drew).trans (d.mono (K _)));have C:=(a.cell (p:=⟨b,9,Q⟩) i).trans x;have m:=O i a.size;have D:=f g a;have F:=fun o=>f (g.alloc o) (a.alloc a.size o);have G:=f g.drew a.drew;have H:=fun o=>f (g.alloc o).drew (a.alloc a.size o).drew;have l:=zd a;clear d a)|(have a:Z w.1.size w g:=(by first|exact((U w.1.size w).drew.alloc (K _) _).trans (d.mono (by simp))|exact(((U w.1.size w).alloc (K _) _).drew).trans (d.mono (by simp)));have n:g.1[w.1.size]?=E (.cells #[.nilIface,I J 0,I J 0,I J 0] 177 (0,0)):=(by first|exact(d.block _ (by simp)).trans (zr w.drew _)|exact(d.block _ (by simp)).trans (zr w _));have u0:g.cell? ⟨w.1.size,0,Q⟩=E .nilIface:=(by rw[xd n];rfl);obtain⟨-,u1,u2,u3,-⟩:=zc n;have uf:=fun j=>zH n j;have T:=zb n;have S:¬b=w.1.size:=(by omega);have A:¬w.1.size=b:=(by omega);have HQ:=zd n;clear n;have C:=(a.cell (p:=⟨b,9,Q⟩) i).trans x;have m:=O i a.size;have D:=f g a;have F:=fun o=>f (g.alloc o) (a.alloc a.size o);have G:=f g.drew a.drew;have H:=fun o=>f (g.alloc o).drew (a.alloc a.size o).drew;have l:=zd a;clear d a)))
  all_goals(go_wp2_with fail)
  all_goals clear D F G H f x m
  all_goals(first
   |(show Code.wp _ _ _ _ (World.alloc g _);have y:=(ud l).alloc (ud l).size (.cells #[.nilIface,I J 0,I J 0,I J 0] 177);generalize(g.alloc (.cells #[.nilIface,I J 0,I J 0,I J 0] 177))=Y at*)
   |(have y:=(ud l).trans (below4 (w:=g) (K w.1.size) .nilIface (I J 0) (I J 0) (I J 0));generalize((((g.setCell ⟨w.1.size,0,Q⟩ .nilIface).setCell ⟨w.1.size,1,Q⟩ (I J 0)).setCell ⟨w.1.size,2,Q⟩ (I J 0)).setCell ⟨w.1.size,3,Q⟩ (I J 0))=Y at*))
  all_goals(have x:=(y.cell (p:=⟨b,9,Q⟩) i).trans (ud u).cell9;have a0:=O i y.size;have B:=zd y;clear y C l)
  all_goals(go_region_held3 (fun w'=>w'.cell? ⟨b,9,Q⟩=E (.map (E tb))) (go_keep) (first
   |(go_at_call 102;refine(ud (v _)).mono ?_;rintro e V ⟨rfl,r⟩;have q:Z w.1.size w V:=(by first|exact(ud B).trans (r.mono (ud B).size)|exact(ud B).drew.trans (r.mono (ud B).size));have m9:=(q.cell (p:=⟨b,9,Q⟩) i).trans (ud u).cell9;obtain⟨o,a2,hm,P,ho⟩:=Vj ((ud u).tk.later q) (by simp only[maxLen];omega) (ud M) now;have n9:(setBlock V tb o).cell? ⟨b,9,Q⟩=E (.map (E tb)):=(by have hh:=P.heap ((ud u).later q).head (fun e=>(ud u).tb_ne e.symm);rw[xd hh];rfl);have N:=zd q;have HM:=zd hm;have L:=zd P;clear r q hm P))
  )
  all_goals(go_wp2_with fail)
  all_goals(go_end0;exact VB (ud u) (ud N) (ud HM) (ud L))
end Go.Proofs.YtndhpgciopcncaaGreatDoor
