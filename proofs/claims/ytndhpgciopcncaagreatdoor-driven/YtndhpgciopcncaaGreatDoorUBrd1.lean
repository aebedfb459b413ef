import Derived.Test.YtndhpgciopcncaaGreatDoorUCnt0
open Go.Value renaming int → I
open Go.IntKind renaming i64 → J
open Nat renaming le_refl → K
open Nat renaming lt_of_lt_of_le → O
open Option renaming some → E
open Option renaming none → Q
open Go.RowKit.Below renaming refl → U
open Go.RowKit renaming Below → Z
set_option linter.unusedVariables false
set_option maxRecDepth 8000
set_option maxHeartbeats 4000000
open Go.Proofs.Tryz
namespace Go.Proofs.YtndhpgciopcncaaGreatDoor
open Go.RowKit Go.Maps Go.Shelf
open Go.ChangeMaps (setBlock)
structure zA(w:World)(b:Nat)(c:Cf)(tv:Value)(ep num:Int)(tb qb:Nat)(TL:List (Jk×Tsk))(QL:List (Tok×Lse)):Prop where
 head:w.1[b]?=E (.cells #[I J c.s,I J c.le,I J c.la,I J c.wi,I J c.ke,I J c.qu,tv,I J ep,I J num,.map (E tb),.map (E qb)] 171 (0,0))
 td:zV xI w tb TL
 leases:zV xx w qb QL
 apart:tb≠qb
def vv(b tb qb:Nat)(k:Nat):Prop:=k=b\/k=tb\/k=qb
section
variable {w w':World} {b:Nat} {c:Cf} {tv:Value} {ep num:Int} {tb qb:Nat} {TL:List (Jk×Tsk)} {QL:List (Tok×Lse)}
theorem zA.lt(h:zA w b c tv ep num tb qb TL QL):b<w.1.size:=za h.head
theorem zA.kept{f:Nat->Prop}(h:zA w b c tv ep num tb qb TL QL)(a:zo f w w')(hn:∀k,vv b tb qb k->¬f k):zA w' b c tv ep num tb qb TL QL:=
 ⟨a.heap h.head (hn b (.inl rfl)),h.td.kept a (hn tb (.inr (.inl rfl))),h.leases.kept a (hn qb (.inr (.inr rfl))),h.apart⟩
theorem zA.later(h:zA w b c tv ep num tb qb TL QL)(a:Z w.1.size w w'):zA w' b c tv ep num tb qb TL QL:=h.kept (f:=fun _=>False) (zo.of_below a) (fun _ _ d=>d)
theorem zA.foot_lt(h:zA w b c tv ep num tb qb TL QL):∀k,vv b tb qb k->k<w.1.size:=fun k a=>by
 rcases a with rfl|rfl|rfl
 ·exact h.lt
 ·exact h.td.lt
 ·exact h.leases.lt
theorem zA.tb_ne(h:zA w b c tv ep num tb qb TL QL):tb≠b:=fun e=>by
 obtain⟨f,d,a,_⟩:=h.td;rw[e,h.head]at a;cases a
theorem zA.qb_ne(h:zA w b c tv ep num tb qb TL QL):qb≠b:=fun e=>by
 obtain⟨f,d,a,_⟩:=h.leases;rw[e,h.head]at a;cases a
theorem zA.putTasks(h:zA w b c tv ep num tb qb TL QL){a:List (Jk×Tsk)}(f:zV xI w' tb a)(d:zo (fun k=>k=tb) w w'):zA w' b c tv ep num tb qb a QL:=
 ⟨d.heap h.head (fun e=>h.tb_ne e.symm),f,h.leases.kept d (fun e=>h.apart e.symm),h.apart⟩
theorem zA.cell9(h:zA w b c tv ep num tb qb TL QL):w.cell? ⟨b,9,Q⟩=E (.map (E tb)):=by rw[xD h.head];rfl
theorem zA.cell10(h:zA w b c tv ep num tb qb TL QL):w.cell? ⟨b,10,Q⟩=E (.map (E qb)):=by rw[xD h.head];rfl
end
theorem Xa{w w':World}{b:Nat}{c:Cf}{tv:Value}{ep num:Int}{tb qb:Nat}{TL:List (Jk×Tsk)}{QL:List (Tok×Lse)}(h:zA w b c tv ep num tb qb TL QL)(a:Z w.1.size w w'):Ending.returned (.tuple #[])=.returned (.tuple #[])/\zA w' b c tv ep num tb qb TL QL/\zo (fun k=>k=tb) w w':=⟨rfl,h.later a,zo.of_below a⟩
theorem Km{w V W:World}{b:Nat}{c:Cf}{tv:Value}{ep num:Int}{tb qb:Nat}{TL a:List (Jk×Tsk)}{QL:List (Tok×Lse)}(h:zA w b c tv ep num tb qb TL QL)(d:Z w.1.size w V)(i:zV xI W tb a)(g:zo (fun k=>k=tb) V W):Ending.returned (.tuple #[])=.returned (.tuple #[])/\zA W b c tv ep num tb qb a QL/\zo (fun k=>k=tb) w W:=
 ⟨rfl,(h.later d).putTasks i g,(zo.of_below (f:=fun k=>k=tb) d).trans g (fun _ _ e=>e)⟩
def Ql(t:Option Tsk):Value:=match t with
 |none=> .agg #[.nilIface,I J 0,I J 0,I J 0]
 |some x=>Zi x
theorem KK{X:World}{tb:Nat}{TL:List (Jk×Tsk)}(h:zV xI X tb TL){k:Jk}(c:k.wf):(Instr.lookup 169 (.map (E tb)) (.agg #[I J k.kd,I J k.s.t,I J k.s.sr,I J k.s.wa]) true).run prog X=.ok (.tuple #[Ql (zQ TL k),.bool (zQ TL k).isSome]) X:=by
 have a:=yt qZ true h c
 cases b:zQ TL k with
 |none=>rw[b]at a;exact a
 |some t=>rw[b]at a;exact a
theorem zbB{X:World}{tb:Nat}{TL:List (Jk×Tsk)}(h:zV xI X tb TL)(b:TL.length<maxLen){s:Sg}(a:(⟨1,s⟩:Jk).wf)(now:Int):
  ∃o,(Instr.mapUpdate 169 (.map (E tb)) (.agg #[I J 1,I J s.t,I J s.sr,I J s.wa]) (.agg #[.iface 195 (.agg #[I J s.t,I J s.sr,I J s.wa]),I J now,I J 0,I J 0])).run prog X=.ok () (setBlock X tb o)/\zV xI (setBlock X tb o) tb (qq TL ⟨1,s⟩ ⟨true,s,now,0,0⟩)/\zo (fun k=>k=tb) X (setBlock X tb o)/\o.isCells=false:=
 kX qZ h b a (⟨true,s,now,0,0⟩:Tsk)
theorem zdn{w:World}{b:Nat}{c:Cf}{tv:Value}{ep num:Int}{tb qb:Nat}{TL:List (Jk×Tsk)}{QL:List (Tok×Lse)}(h:zA w b c tv ep num tb qb TL QL)(s:Sg)(R:s.wf)(now:Int)(a1:TL.length<=100000):
  Calls prog 113 #[.pointer (E ⟨b,0,Q⟩),.iface 195 (.agg #[I J s.t,I J s.sr,I J s.wa]),I J now] w fun e w'=>e=.returned (.tuple #[])/\zA w' b c tv ep num tb qb (match zQ TL ⟨1,s⟩with|some _=>TL|none=>qq TL ⟨1,s⟩ ⟨true,s,now,0,0⟩) QL/\zo (fun k=>k=tb) w w':=by
 have z:(⟨1,s⟩:Jk).wf:=⟨by unfold xh;simp,R⟩
 have i:=h.lt
 have x:=h.cell9
 have v:=fun W=>zd (keyOf_Roll s W)
 have f:=fun X hX=>KK (h.td.later (w':=X) hX) z
 dsimp only at f
 have u:=zd h
 cases hg:zQ TL ⟨1,s⟩with
 |some t=>
  rw[hg]at f
  dsimp only[Option.isSome,Ql,Zi]at f
  clear h R
  go_enter func113,ntmps113
  go_wp2_with fail
  go_region_held3 (fun w'=>w'.cell? ⟨b,9,Q⟩=E (.map (E tb))) (go_keep) (first
   |(go_at_call 102;refine(ud (v _)).mono ?_;rintro e g ⟨rfl,d⟩;first|(have a:Z w.1.size w g:=(by first|exact(U w.1.size w).trans (d.mono (K _))|exact((U w.1.size w).drew).trans (d.mono (K _)));have C:=(a.cell (p:=⟨b,9,Q⟩) i).trans x;have m:=O i a.size;have D:=f g a;have F:=fun o=>f (g.alloc o) (a.alloc a.size o);have G:=f g.drew a.drew;have H:=fun o=>f (g.alloc o).drew (a.alloc a.size o).drew;have l:=zd a;clear d a)|(have a:Z w.1.size w g:=(by first|exact((U w.1.size w).drew.alloc (K _) _).trans (d.mono (by simp))|exact(((U w.1.size w).alloc (K _) _).drew).trans (d.mono (by simp)));have n:g.1[w.1.size]?=E (.cells #[.nilIface,I J 0,I J 0,I J 0] 177 (0,0)):=(by first|exact(d.block _ (by simp)).trans (zm w.drew _)|exact(d.block _ (by simp)).trans (zm w _));have u0:g.cell? ⟨w.1.size,0,Q⟩=E .nilIface:=(by rw[xD n];rfl);obtain⟨-,u1,u2,u3,-⟩:=zc n;have uf:=fun j=>zE n j;have T:=za n;have S:¬b=w.1.size:=(by omega);have A:¬w.1.size=b:=(by omega);have HQ:=zd n;clear n;have C:=(a.cell (p:=⟨b,9,Q⟩) i).trans x;have m:=O i a.size;have D:=f g a;have F:=fun o=>f (g.alloc o) (a.alloc a.size o);have G:=f g.drew a.drew;have H:=fun o=>f (g.alloc o).drew (a.alloc a.size o).drew;have l:=zd a;clear d a)))
  all_goals(go_wp2_with fail)
  all_goals(go_end0;first|exact Xa (ud u) ((ud l).alloc (ud l).size _)|exact Xa (ud u) ((ud l).trans (below4 (K _) _ _ _ _)))
 |none=>
  rw[hg]at f
  dsimp only[Option.isSome,Ql]at f
  have M:=zd z
  clear h R
  go_enter func113,ntmps113
  go_wp2_with fail
  go_region_held3 (fun w'=>w'.cell? ⟨b,9,Q⟩=E (.map (E tb))) (go_keep) (first
   |(go_at_call 102;refine(ud (v _)).mono ?_;rintro e g ⟨rfl,d⟩;first|(have a:Z w.1.size w g:=(by first|exact(U w.1.size w).trans (d.mono (K _))|exact((U w.1.size w).drew).trans (d.mono (K _)));have C:=(a.cell (p:=⟨b,9,Q⟩) i).trans x;have m:=O i a.size;have D:=f g a;have F:=fun o=>f (g.alloc o) (a.alloc a.size o);have G:=f g.drew a.drew;have H:=fun o=>f (g.alloc o).drew (a.alloc a.size o).drew;have l:=zd a;clear d a)|(have a:Z w.1.size w g:=(by first|exact((U w.1.size w).drew.alloc (K _) _).trans (d.mono (by simp))|exact(((U w.1.size w).alloc (K _) _).drew).trans (d.mono (by simp)));have n:g.1[w.1.size]?=E (.cells #[.nilIface,I J 0,I J 0,I J 0] 177 (0,0)):=(by first|exact(d.block _ (by simp)).trans (zm w.drew _)|exact(d.block _ (by simp)).trans (zm w _));have u0:g.cell? ⟨w.1.size,0,Q⟩=E .nilIface:=(by rw[xD n];rfl);obtain⟨-,u1,u2,u3,-⟩:=zc n;have uf:=fun j=>zE n j;have T:=za n;have S:¬b=w.1.size:=(by omega);have A:¬w.1.size=b:=(by omega);have HQ:=zd n;clear n;have C:=(a.cell (p:=⟨b,9,Q⟩) i).trans x;have m:=O i a.size;have D:=f g a;have F:=fun o=>f (g.alloc o) (a.alloc a.size o);have G:=f g.drew a.drew;have H:=fun o=>f (g.alloc o).drew (a.alloc a.size o).drew;have l:=zd a;clear d a)))
  all_goals(go_wp2_with fail)
  all_goals clear D F G H f x m
  all_goals(first
   |(show Code.wp _ _ _ _ (World.alloc g _);have y:=(ud l).alloc (ud l).size (.cells #[.nilIface,I J 0,I J 0,I J 0] 177);generalize(g.alloc (.cells #[.nilIface,I J 0,I J 0,I J 0] 177))=Y at*)
   |(have y:=(ud l).trans (below4 (w:=g) (K w.1.size) .nilIface (I J 0) (I J 0) (I J 0));generalize((((g.setCell ⟨w.1.size,0,Q⟩ .nilIface).setCell ⟨w.1.size,1,Q⟩ (I J 0)).setCell ⟨w.1.size,2,Q⟩ (I J 0)).setCell ⟨w.1.size,3,Q⟩ (I J 0))=Y at*))
  all_goals(have x:=(y.cell (p:=⟨b,9,Q⟩) i).trans (ud u).cell9;have a0:=O i y.size;have B:=zd y;clear y C l)
  all_goals(go_region_held3 (fun w'=>w'.cell? ⟨b,9,Q⟩=E (.map (E tb))) (go_keep) (first
   |(go_at_call 102;refine(ud (v _)).mono ?_;rintro e V ⟨rfl,r⟩;have q:Z w.1.size w V:=(by first|exact(ud B).trans (r.mono (ud B).size)|exact(ud B).drew.trans (r.mono (ud B).size));have m9:=(q.cell (p:=⟨b,9,Q⟩) i).trans (ud u).cell9;obtain⟨o,a2,hm,P,ho⟩:=zbB ((ud u).td.later q) (by simp only[maxLen];omega) (ud M) now;have n9:(setBlock V tb o).cell? ⟨b,9,Q⟩=E (.map (E tb)):=(by have hh:=P.heap ((ud u).later q).head (fun e=>(ud u).tb_ne e.symm);rw[xD hh];rfl);have N:=zd q;have HM:=zd hm;have L:=zd P;clear r q hm P))
  )
  all_goals(go_wp2_with fail)
  all_goals(go_end0;exact Km (ud u) (ud N) (ud HM) (ud L))
theorem YN{X:World}{tb:Nat}{TL:List (Jk×Tsk)}(h:zV xI X tb TL)(b:TL.length<maxLen){s:Sg}(a:(⟨2,s⟩:Jk).wf)(now:Int):
  ∃o,(Instr.mapUpdate 169 (.map (E tb)) (.agg #[I J 2,I J s.t,I J s.sr,I J s.wa]) (.agg #[.iface 197 (.agg #[I J s.t,I J s.sr,I J s.wa]),I J now,I J 0,I J 0])).run prog X=.ok () (setBlock X tb o)/\zV xI (setBlock X tb o) tb (qq TL ⟨2,s⟩ ⟨false,s,now,0,0⟩)/\zo (fun k=>k=tb) X (setBlock X tb o)/\o.isCells=false:=
 kX qZ h b a (⟨false,s,now,0,0⟩:Tsk)
theorem Vg{w:World}{b:Nat}{c:Cf}{tv:Value}{ep num:Int}{tb qb:Nat}{TL:List (Jk×Tsk)}{QL:List (Tok×Lse)}(h:zA w b c tv ep num tb qb TL QL)(s:Sg)(R:s.wf)(now:Int)(a1:TL.length<=100000):
  Calls prog 113 #[.pointer (E ⟨b,0,Q⟩),.iface 197 (.agg #[I J s.t,I J s.sr,I J s.wa]),I J now] w fun e w'=>e=.returned (.tuple #[])/\zA w' b c tv ep num tb qb (match zQ TL ⟨2,s⟩with|some _=>TL|none=>qq TL ⟨2,s⟩ ⟨false,s,now,0,0⟩) QL/\zo (fun k=>k=tb) w w':=by
 have z:(⟨2,s⟩:Jk).wf:=⟨by unfold xh;simp,R⟩
 have i:=h.lt
 have x:=h.cell9
 have v:=fun W=>zd (keyOf_Reclaim s W)
 have f:=fun X hX=>KK (h.td.later (w':=X) hX) z
 dsimp only at f
 have u:=zd h
 cases hg:zQ TL ⟨2,s⟩with
 |some t=>
  rw[hg]at f
  dsimp only[Option.isSome,Ql,Zi]at f
  clear h R
  go_enter func113,ntmps113
  go_wp2_with fail
  go_region_held3 (fun w'=>w'.cell? ⟨b,9,Q⟩=E (.map (E tb))) (go_keep) (first
   |(go_at_call 102;refine(ud (v _)).mono ?_;rintro e g ⟨rfl,d⟩;first|(have a:Z w.1.size w g:=(by first|exact(U w.1.size w).trans (d.mono (K _))|exact((U w.1.size w).drew).trans (d.mono (K _)));have C:=(a.cell (p:=⟨b,9,Q⟩) i).trans x;have m:=O i a.size;have D:=f g a;have F:=fun o=>f (g.alloc o) (a.alloc a.size o);have G:=f g.drew a.drew;have H:=fun o=>f (g.alloc o).drew (a.alloc a.size o).drew;have l:=zd a;clear d a)|(have a:Z w.1.size w g:=(by first|exact((U w.1.size w).drew.alloc (K _) _).trans (d.mono (by simp))|exact(((U w.1.size w).alloc (K _) _).drew).trans (d.mono (by simp)));have n:g.1[w.1.size]?=E (.cells #[.nilIface,I J 0,I J 0,I J 0] 177 (0,0)):=(by first|exact(d.block _ (by simp)).trans (zm w.drew _)|exact(d.block _ (by simp)).trans (zm w _));have u0:g.cell? ⟨w.1.size,0,Q⟩=E .nilIface:=(by rw[xD n];rfl);obtain⟨-,u1,u2,u3,-⟩:=zc n;have uf:=fun j=>zE n j;have T:=za n;have S:¬b=w.1.size:=(by omega);have A:¬w.1.size=b:=(by omega);have HQ:=zd n;clear n;have C:=(a.cell (p:=⟨b,9,Q⟩) i).trans x;have m:=O i a.size;have D:=f g a;have F:=fun o=>f (g.alloc o) (a.alloc a.size o);have G:=f g.drew a.drew;have H:=fun o=>f (g.alloc o).drew (a.alloc a.size o).drew;have l:=zd a;clear d a)))
  all_goals(go_wp2_with fail)
  all_goals(go_end0;first|exact Xa (ud u) ((ud l).alloc (ud l).size _)|exact Xa (ud u) ((ud l).trans (below4 (K _) _ _ _ _)))
 |none=>
  rw[hg]at f
  dsimp only[Option.isSome,Ql]at f
  have M:=zd z
  clear h R
  go_enter func113,ntmps113
  go_wp2_with fail
  go_region_held3 (fun w'=>w'.cell? ⟨b,9,Q⟩=E (.map (E tb))) (go_keep) (first
   |(go_at_call 102;refine(ud (v _)).mono ?_;rintro e g ⟨rfl,d⟩;first|(have a:Z w.1.size w g:=(by first|exact(U w.1.size w).trans (d.mono (K _))|exact((U w.1.size w).drew).trans (d.mono (K _)));have C:=(a.cell (p:=⟨b,9,Q⟩) i).trans x;have m:=O i a.size;have D:=f g a;have F:=fun o=>f (g.alloc o) (a.alloc a.size o);have G:=f g.drew a.drew;have H:=fun o=>f (g.alloc o).drew (a.alloc a.size o).drew;have l:=zd a;clear d a)|(have a:Z w.1.size w g:=(by first|exact((U w.1.size w).drew.alloc (K _) _).trans (d.mono (by simp))|exact(((U w.1.size w).alloc (K _) _).drew).trans (d.mono (by simp)));have n:g.1[w.1.size]?=E (.cells #[.nilIface,I J 0,I J 0,I J 0] 177 (0,0)):=(by first|exact(d.block _ (by simp)).trans (zm w.drew _)|exact(d.block _ (by simp)).trans (zm w _));have u0:g.cell? ⟨w.1.size,0,Q⟩=E .nilIface:=(by rw[xD n];rfl);obtain⟨-,u1,u2,u3,-⟩:=zc n;have uf:=fun j=>zE n j;have T:=za n;have S:¬b=w.1.size:=(by omega);have A:¬w.1.size=b:=(by omega);have HQ:=zd n;clear n;have C:=(a.cell (p:=⟨b,9,Q⟩) i).trans x;have m:=O i a.size;have D:=f g a;have F:=fun o=>f (g.alloc o) (a.alloc a.size o);have G:=f g.drew a.drew;have H:=fun o=>f (g.alloc o).drew (a.alloc a.size o).drew;have l:=zd a;clear d a)))
  all_goals(go_wp2_with fail)
  all_goals clear D F G H f x m
  all_goals(first
   |(show Code.wp _ _ _ _ (World.alloc g _);have y:=(ud l).alloc (ud l).size (.cells #[.nilIface,I J 0,I J 0,I J 0] 177);generalize(g.alloc (.cells #[.nilIface,I J 0,I J 0,I J 0] 177))=Y at*)
   |(have y:=(ud l).trans (below4 (w:=g) (K w.1.size) .nilIface (I J 0) (I J 0) (I J 0));generalize((((g.setCell ⟨w.1.size,0,Q⟩ .nilIface).setCell ⟨w.1.size,1,Q⟩ (I J 0)).setCell ⟨w.1.size,2,Q⟩ (I J 0)).setCell ⟨w.1.size,3,Q⟩ (I J 0))=Y at*))
  all_goals(have x:=(y.cell (p:=⟨b,9,Q⟩) i).trans (ud u).cell9;have a0:=O i y.size;have B:=zd y;clear y C l)
  all_goals(go_region_held3 (fun w'=>w'.cell? ⟨b,9,Q⟩=E (.map (E tb))) (go_keep) (first
   |(go_at_call 102;refine(ud (v _)).mono ?_;rintro e V ⟨rfl,r⟩;have q:Z w.1.size w V:=(by first|exact(ud B).trans (r.mono (ud B).size)|exact(ud B).drew.trans (r.mono (ud B).size));have m9:=(q.cell (p:=⟨b,9,Q⟩) i).trans (ud u).cell9;obtain⟨o,a2,hm,P,ho⟩:=YN ((ud u).td.later q) (by simp only[maxLen];omega) (ud M) now;have n9:(setBlock V tb o).cell? ⟨b,9,Q⟩=E (.map (E tb)):=(by have hh:=P.heap ((ud u).later q).head (fun e=>(ud u).tb_ne e.symm);rw[xD hh];rfl);have N:=zd q;have HM:=zd hm;have L:=zd P;clear r q hm P))
  )
  all_goals(go_wp2_with fail)
  all_goals(go_end0;exact Km (ud u) (ud N) (ud HM) (ud L))
end Go.Proofs.YtndhpgciopcncaaGreatDoor
