import Derived.Test.YtndhpgciopcncaaGreatDoorHCnt0
open Nat renaming le_refl → J
open Nat renaming lt_of_lt_of_le → K
open Option renaming some → E
open Go.RowKit.Below renaming refl → Q
open Go.RowKit renaming Below → Z
set_option linter.unusedVariables false
set_option maxRecDepth 8000
set_option maxHeartbeats 4000000
open Go.Proofs.Tryz
namespace Go.Proofs.YtndhpgciopcncaaGreatDoor
open Go.RowKit Go.Maps Go.Shelf
open Go.ChangeMaps (setBlock)
variable {c:Cf} {ep num:Int} {TL TL':List (Jk×Tsk)} {QL:List (Tok×Lse)} {b qb tb:Nat} {s:Sg} {tv:Value} {X w:World}
structure zC(w:World)(b:Nat)(c:Cf)(tv:Value)(ep num:Int)(tb qb:Nat)(TL:List (Jk×Tsk))(QL:List (Tok×Lse)):Prop where
 head:w.1[b]?=E (.cells #[I c.s,I c.le,I c.la,I c.wi,I c.ke,I c.qu,tv,I ep,I num,.map (E tb),.map (E qb)] 171 (0,0))
 td:xi qi w tb TL
 leases:xi xJ w qb QL
 apart:tb≠qb
def Zc(b tb qb:Nat)(k:Nat):Prop:=k=b\/k=tb\/k=qb
section
variable {w w':World} {b:Nat} {c:Cf} {tv:Value} {ep num:Int} {tb qb:Nat} {TL:List (Jk×Tsk)} {QL:List (Tok×Lse)}
theorem zC.lt(h:zC w b c tv ep num tb qb TL QL):b<w.1.size:=zd h.head
theorem zC.kept{f:Nat->Prop}(h:zC w b c tv ep num tb qb TL QL)(a:zi f w w')(hn:∀k,Zc b tb qb k->¬f k):zC w' b c tv ep num tb qb TL QL:=
 ⟨a.heap h.head (hn b (.inl rfl)),h.td.kept a (hn tb (.inr (.inl rfl))),h.leases.kept a (hn qb (.inr (.inr rfl))),h.apart⟩
theorem zC.later(h:zC w b c tv ep num tb qb TL QL)(a:Z w.1.size w w'):zC w' b c tv ep num tb qb TL QL:=h.kept (f:=fun _=>False) (zi.of_below a) (fun _ _ d=>d)
theorem zC.foot_lt(h:zC w b c tv ep num tb qb TL QL):∀k,Zc b tb qb k->k<w.1.size:=fun k a=>by
 rcases a with rfl|rfl|rfl
 ·exact h.lt
 ·exact h.td.lt
 ·exact h.leases.lt
theorem zC.tb_ne(h:zC w b c tv ep num tb qb TL QL):tb≠b:=fun e=>by
 obtain⟨es,cl,a,_⟩:=h.td;rw[e,h.head]at a;cases a
theorem zC.qb_ne(h:zC w b c tv ep num tb qb TL QL):qb≠b:=fun e=>by
 obtain⟨es,cl,a,_⟩:=h.leases;rw[e,h.head]at a;cases a
theorem zC.putTasks(h:zC w b c tv ep num tb qb TL QL)(d:xi qi w' tb TL')(a:zi (fun k=>k=tb) w w'):zC w' b c tv ep num tb qb TL' QL:=
 ⟨a.heap h.head (fun e=>h.tb_ne e.symm),d,h.leases.kept a (fun e=>h.apart e.symm),h.apart⟩
theorem zC.cell9(h:zC w b c tv ep num tb qb TL QL):w.cell? (U b 9)=E (.map (E tb)):=by rw[xR h.head];rfl
theorem zC.cell10(h:zC w b c tv ep num tb qb TL QL):w.cell? (U b 10)=E (.map (E qb)):=by rw[xR h.head];rfl
end
theorem YC{w':World}(h:zC w b c tv ep num tb qb TL QL)(a:Z w.1.size w w'):Ending.returned (.tuple #[])=.returned (.tuple #[])/\zC w' b c tv ep num tb qb TL QL/\zi (fun k=>k=tb) w w':=⟨rfl,h.later a,zi.of_below a⟩
theorem zbg{V W:World}(h:zC w b c tv ep num tb qb TL QL)(a:Z w.1.size w V)(g:xi qi W tb TL')(d:zi (fun k=>k=tb) V W):Ending.returned (.tuple #[])=.returned (.tuple #[])/\zC W b c tv ep num tb qb TL' QL/\zi (fun k=>k=tb) w W:=
 ⟨rfl,(h.later a).putTasks g d,(zi.of_below (f:=fun k=>k=tb) a).trans d (fun _ _ e=>e)⟩
def Vo(t:Option Tsk):Value:=match t with
 |none=> .agg #[.nilIface,I 0,I 0,I 0]
 |some x=>Ql x
theorem zbE(h:xi qi X tb TL){k:Jk}(c:k.wf):(Instr.lookup 169 (.map (E tb)) (.agg #[I k.kd,I k.s.t,I k.s.sr,I k.s.wn]) true).run prog X=.ok (.tuple #[Vo (zE TL k),.bool (zE TL k).isSome]) X:=by
 have a:=kK k8 true h c;cases b:zE TL k with
 |none=>rw[b]at a;exact a
 |some t=>rw[b]at a;exact a
theorem zgG(h:xi qi X tb TL)(b:TL.length<maxLen)(a:(⟨1,s⟩:Jk).wf)(now:Int):
  ∃o,(Instr.mapUpdate 169 (.map (E tb)) (.agg #[I 1,I s.t,I s.sr,I s.wn]) (.agg #[.iface 195 (.agg #[I s.t,I s.sr,I s.wn]),I now,I 0,I 0])).run prog X=.ok () (setBlock X tb o)/\xi qi (setBlock X tb o) tb (qj TL ⟨1,s⟩ ⟨true,s,now,0,0⟩)/\zi (fun k=>k=tb) X (setBlock X tb o)/\o.isCells=false:=
 jK k8 h b a (⟨true,s,now,0,0⟩:Tsk)
theorem ziZ(h:zC w b c tv ep num tb qb TL QL)(s:Sg)(R:s.wf)(now:Int)(a1:TL.length<=100000):
  Calls prog 113 #[(O b),.iface 195 (.agg #[I s.t,I s.sr,I s.wn]),I now] w fun e w'=>e=.returned (.tuple #[])/\zC w' b c tv ep num tb qb (match zE TL ⟨1,s⟩with|some _=>TL|none=>qj TL ⟨1,s⟩ ⟨true,s,now,0,0⟩) QL/\zi (fun k=>k=tb) w w':=by
 have z:(⟨1,s⟩:Jk).wf:=⟨by unfold xz;simp,R⟩;have i:=h.lt;have x:=h.cell9;have v:=fun W=>ze (keyOf_Roll s W);have f:=fun X hX=>zbE (h.td.later (w':=X) hX) z;dsimp only at f;have u:=ze h;cases hg:zE TL ⟨1,s⟩with
 |some t=>
  rw[hg]at f
  dsimp only[Option.isSome,Vo,Ql]at f
  clear h R
  go_enter func113,ntmps113
  go_wp2_with fail
  go_region_held3 (fun w'=>w'.cell? (U b 9)=E (.map (E tb))) (go_keep) (first
   |(go_at_call 102;refine(ud (v _)).mono ?_;rintro e g ⟨rfl,d⟩;first|(have a:Z w.1.size w g:=(by first|exact(Q w.1.size w).trans (d.mono (J _))|exact((Q w.1.size w).drew).trans (d.mono (J _)));have C:=(a.cell (p:=(U b 9)) i).trans x;have m:=K i a.size;have D:=f g a;have F:=fun o=>f (g.alloc o) (a.alloc a.size o);have G:=f g.drew a.drew;have H:=fun o=>f (g.alloc o).drew (a.alloc a.size o).drew;have l:=ze a;clear d a)|(have a:Z w.1.size w g:=(by first|exact((Q w.1.size w).drew.alloc (J _) _).trans (d.mono (by simp))|exact(((Q w.1.size w).alloc (J _) _).drew).trans (d.mono (by simp)));have n:g.1[w.1.size]?=E (.cells #[.nilIface,I 0,I 0,I 0] 177 (0,0)):=(by first|exact(d.block _ (by simp)).trans (zq w.drew _)|exact(d.block _ (by simp)).trans (zq w _));have u0:g.cell? (U w.1.size 0)=E .nilIface:=(by rw[xR n];rfl);obtain⟨-,u1,u2,u3,-⟩:=zc n;have uf:=fun j=>zw n j;have T:=zd n;have S:¬b=w.1.size:=(by omega);have A:¬w.1.size=b:=(by omega);have HQ:=ze n;clear n;have C:=(a.cell (p:=(U b 9)) i).trans x;have m:=K i a.size;have D:=f g a;have F:=fun o=>f (g.alloc o) (a.alloc a.size o);have G:=f g.drew a.drew;have H:=fun o=>f (g.alloc o).drew (a.alloc a.size o).drew;have l:=ze a;clear d a)))
  all_goals(go_wp2_with fail)
  all_goals(go_end0;first|exact YC (ud u) ((ud l).alloc (ud l).size _)|exact YC (ud u) ((ud l).trans (below4 (J _) _ _ _ _)))
 |none=>
  rw[hg]at f
  dsimp only[Option.isSome,Vo]at f
  have M:=ze z
  clear h R
  go_enter func113,ntmps113
  go_wp2_with fail
  go_region_held3 (fun w'=>w'.cell? (U b 9)=E (.map (E tb))) (go_keep) (first
   |(go_at_call 102;refine(ud (v _)).mono ?_;rintro e g ⟨rfl,d⟩;first|(have a:Z w.1.size w g:=(by first|exact(Q w.1.size w).trans (d.mono (J _))|exact((Q w.1.size w).drew).trans (d.mono (J _)));have C:=(a.cell (p:=(U b 9)) i).trans x;have m:=K i a.size;have D:=f g a;have F:=fun o=>f (g.alloc o) (a.alloc a.size o);have G:=f g.drew a.drew;have H:=fun o=>f (g.alloc o).drew (a.alloc a.size o).drew;have l:=ze a;clear d a)|(have a:Z w.1.size w g:=(by first|exact((Q w.1.size w).drew.alloc (J _) _).trans (d.mono (by simp))|exact(((Q w.1.size w).alloc (J _) _).drew).trans (d.mono (by simp)));have n:g.1[w.1.size]?=E (.cells #[.nilIface,I 0,I 0,I 0] 177 (0,0)):=(by first|exact(d.block _ (by simp)).trans (zq w.drew _)|exact(d.block _ (by simp)).trans (zq w _));have u0:g.cell? (U w.1.size 0)=E .nilIface:=(by rw[xR n];rfl);obtain⟨-,u1,u2,u3,-⟩:=zc n;have uf:=fun j=>zw n j;have T:=zd n;have S:¬b=w.1.size:=(by omega);have A:¬w.1.size=b:=(by omega);have HQ:=ze n;clear n;have C:=(a.cell (p:=(U b 9)) i).trans x;have m:=K i a.size;have D:=f g a;have F:=fun o=>f (g.alloc o) (a.alloc a.size o);have G:=f g.drew a.drew;have H:=fun o=>f (g.alloc o).drew (a.alloc a.size o).drew;have l:=ze a;clear d a)))
  all_goals(go_wp2_with fail)
  all_goals clear D F G H f x m
  all_goals(first
   |(show Code.wp _ _ _ _ (World.alloc g _);have y:=(ud l).alloc (ud l).size (.cells #[.nilIface,I 0,I 0,I 0] 177);generalize(g.alloc (.cells #[.nilIface,I 0,I 0,I 0] 177))=Y at*)
   |(have y:=(ud l).trans (below4 (w:=g) (J w.1.size) .nilIface (I 0) (I 0) (I 0));generalize((((g.setCell (U w.1.size 0) .nilIface).setCell (U w.1.size 1) (I 0)).setCell (U w.1.size 2) (I 0)).setCell (U w.1.size 3) (I 0))=Y at*))
  all_goals(have x:=(y.cell (p:=(U b 9)) i).trans (ud u).cell9;have a0:=K i y.size;have B:=ze y;clear y C l)
  all_goals(go_region_held3 (fun w'=>w'.cell? (U b 9)=E (.map (E tb))) (go_keep) (first
   |(go_at_call 102;refine(ud (v _)).mono ?_;rintro e V ⟨rfl,r⟩;have q:Z w.1.size w V:=(by first|exact(ud B).trans (r.mono (ud B).size)|exact(ud B).drew.trans (r.mono (ud B).size));have m9:=(q.cell (p:=(U b 9)) i).trans (ud u).cell9;obtain⟨o,a2,hm,P,ho⟩:=zgG ((ud u).td.later q) (by simp only[maxLen];omega) (ud M) now;have n9:(setBlock V tb o).cell? (U b 9)=E (.map (E tb)):=(by have hh:=P.heap ((ud u).later q).head (fun e=>(ud u).tb_ne e.symm);rw[xR hh];rfl);have N:=ze q;have HM:=ze hm;have L:=ze P;clear r q hm P))
  )
  all_goals(go_wp2_with fail)
  all_goals(go_end0;exact zbg (ud u) (ud N) (ud HM) (ud L))
theorem zaw(h:xi qi X tb TL)(b:TL.length<maxLen)(a:(⟨2,s⟩:Jk).wf)(now:Int):
  ∃o,(Instr.mapUpdate 169 (.map (E tb)) (.agg #[I 2,I s.t,I s.sr,I s.wn]) (.agg #[.iface 197 (.agg #[I s.t,I s.sr,I s.wn]),I now,I 0,I 0])).run prog X=.ok () (setBlock X tb o)/\xi qi (setBlock X tb o) tb (qj TL ⟨2,s⟩ ⟨false,s,now,0,0⟩)/\zi (fun k=>k=tb) X (setBlock X tb o)/\o.isCells=false:=
 jK k8 h b a (⟨false,s,now,0,0⟩:Tsk)
theorem zbU(h:zC w b c tv ep num tb qb TL QL)(s:Sg)(R:s.wf)(now:Int)(a1:TL.length<=100000):
  Calls prog 113 #[(O b),.iface 197 (.agg #[I s.t,I s.sr,I s.wn]),I now] w fun e w'=>e=.returned (.tuple #[])/\zC w' b c tv ep num tb qb (match zE TL ⟨2,s⟩with|some _=>TL|none=>qj TL ⟨2,s⟩ ⟨false,s,now,0,0⟩) QL/\zi (fun k=>k=tb) w w':=by
 have z:(⟨2,s⟩:Jk).wf:=⟨by unfold xz;simp,R⟩;have i:=h.lt;have x:=h.cell9;have v:=fun W=>ze (keyOf_Reclaim s W);have f:=fun X hX=>zbE (h.td.later (w':=X) hX) z;dsimp only at f;have u:=ze h;cases hg:zE TL ⟨2,s⟩with
 |some t=>
  rw[hg]at f
  dsimp only[Option.isSome,Vo,Ql]at f
  clear h R
  go_enter func113,ntmps113
  go_wp2_with fail
  go_region_held3 (fun w'=>w'.cell? (U b 9)=E (.map (E tb))) (go_keep) (first
   |(go_at_call 102;refine(ud (v _)).mono ?_;rintro e g ⟨rfl,d⟩;first|(have a:Z w.1.size w g:=(by first|exact(Q w.1.size w).trans (d.mono (J _))|exact((Q w.1.size w).drew).trans (d.mono (J _)));have C:=(a.cell (p:=(U b 9)) i).trans x;have m:=K i a.size;have D:=f g a;have F:=fun o=>f (g.alloc o) (a.alloc a.size o);have G:=f g.drew a.drew;have H:=fun o=>f (g.alloc o).drew (a.alloc a.size o).drew;have l:=ze a;clear d a)|(have a:Z w.1.size w g:=(by first|exact((Q w.1.size w).drew.alloc (J _) _).trans (d.mono (by simp))|exact(((Q w.1.size w).alloc (J _) _).drew).trans (d.mono (by simp)));have n:g.1[w.1.size]?=E (.cells #[.nilIface,I 0,I 0,I 0] 177 (0,0)):=(by first|exact(d.block _ (by simp)).trans (zq w.drew _)|exact(d.block _ (by simp)).trans (zq w _));have u0:g.cell? (U w.1.size 0)=E .nilIface:=(by rw[xR n];rfl);obtain⟨-,u1,u2,u3,-⟩:=zc n;have uf:=fun j=>zw n j;have T:=zd n;have S:¬b=w.1.size:=(by omega);have A:¬w.1.size=b:=(by omega);have HQ:=ze n;clear n;have C:=(a.cell (p:=(U b 9)) i).trans x;have m:=K i a.size;have D:=f g a;have F:=fun o=>f (g.alloc o) (a.alloc a.size o);have G:=f g.drew a.drew;have H:=fun o=>f (g.alloc o).drew (a.alloc a.size o).drew;have l:=ze a;clear d a)))
  all_goals(go_wp2_with fail)
  all_goals(go_end0;first|exact YC (ud u) ((ud l).alloc (ud l).size _)|exact YC (ud u) ((ud l).trans (below4 (J _) _ _ _ _)))
 |none=>
  rw[hg]at f
  dsimp only[Option.isSome,Vo]at f
  have M:=ze z
  clear h R
  go_enter func113,ntmps113
  go_wp2_with fail
  go_region_held3 (fun w'=>w'.cell? (U b 9)=E (.map (E tb))) (go_keep) (first
   |(go_at_call 102;refine(ud (v _)).mono ?_;rintro e g ⟨rfl,d⟩;first|(have a:Z w.1.size w g:=(by first|exact(Q w.1.size w).trans (d.mono (J _))|exact((Q w.1.size w).drew).trans (d.mono (J _)));have C:=(a.cell (p:=(U b 9)) i).trans x;have m:=K i a.size;have D:=f g a;have F:=fun o=>f (g.alloc o) (a.alloc a.size o);have G:=f g.drew a.drew;have H:=fun o=>f (g.alloc o).drew (a.alloc a.size o).drew;have l:=ze a;clear d a)|(have a:Z w.1.size w g:=(by first|exact((Q w.1.size w).drew.alloc (J _) _).trans (d.mono (by simp))|exact(((Q w.1.size w).alloc (J _) _).drew).trans (d.mono (by simp)));have n:g.1[w.1.size]?=E (.cells #[.nilIface,I 0,I 0,I 0] 177 (0,0)):=(by first|exact(d.block _ (by simp)).trans (zq w.drew _)|exact(d.block _ (by simp)).trans (zq w _));have u0:g.cell? (U w.1.size 0)=E .nilIface:=(by rw[xR n];rfl);obtain⟨-,u1,u2,u3,-⟩:=zc n;have uf:=fun j=>zw n j;have T:=zd n;have S:¬b=w.1.size:=(by omega);have A:¬w.1.size=b:=(by omega);have HQ:=ze n;clear n;have C:=(a.cell (p:=(U b 9)) i).trans x;have m:=K i a.size;have D:=f g a;have F:=fun o=>f (g.alloc o) (a.alloc a.size o);have G:=f g.drew a.drew;have H:=fun o=>f (g.alloc o).drew (a.alloc a.size o).drew;have l:=ze a;clear d a)))
  all_goals(go_wp2_with fail)
  all_goals clear D F G H f x m
  all_goals(first
   |(show Code.wp _ _ _ _ (World.alloc g _);have y:=(ud l).alloc (ud l).size (.cells #[.nilIface,I 0,I 0,I 0] 177);generalize(g.alloc (.cells #[.nilIface,I 0,I 0,I 0] 177))=Y at*)
   |(have y:=(ud l).trans (below4 (w:=g) (J w.1.size) .nilIface (I 0) (I 0) (I 0));generalize((((g.setCell (U w.1.size 0) .nilIface).setCell (U w.1.size 1) (I 0)).setCell (U w.1.size 2) (I 0)).setCell (U w.1.size 3) (I 0))=Y at*))
  all_goals(have x:=(y.cell (p:=(U b 9)) i).trans (ud u).cell9;have a0:=K i y.size;have B:=ze y;clear y C l)
  all_goals(go_region_held3 (fun w'=>w'.cell? (U b 9)=E (.map (E tb))) (go_keep) (first
   |(go_at_call 102;refine(ud (v _)).mono ?_;rintro e V ⟨rfl,r⟩;have q:Z w.1.size w V:=(by first|exact(ud B).trans (r.mono (ud B).size)|exact(ud B).drew.trans (r.mono (ud B).size));have m9:=(q.cell (p:=(U b 9)) i).trans (ud u).cell9;obtain⟨o,a2,hm,P,ho⟩:=zaw ((ud u).td.later q) (by simp only[maxLen];omega) (ud M) now;have n9:(setBlock V tb o).cell? (U b 9)=E (.map (E tb)):=(by have hh:=P.heap ((ud u).later q).head (fun e=>(ud u).tb_ne e.symm);rw[xR hh];rfl);have N:=ze q;have HM:=ze hm;have L:=ze P;clear r q hm P))
  )
  all_goals(go_wp2_with fail)
  all_goals(go_end0;exact zbg (ud u) (ud N) (ud HM) (ud L))
end Go.Proofs.YtndhpgciopcncaaGreatDoor
