import Derived.Test.YtndhpgciopcncaaGreatDoorXCnt0
open Nat renaming le_refl → J
open Option renaming some → E
open Go.RowKit.Below renaming refl → Q
open Nat renaming lt_of_lt_of_le → S
open Go.RowKit renaming Below → A
open Go renaming World → D
set_option linter.unusedVariables false
set_option maxRecDepth 20000
set_option maxHeartbeats 4000000
open Go.Proofs.Tryz
namespace Go.Proofs.YtndhpgciopcncaaGreatDoor
open Go.ChangeMaps (setBlock)
open Go.RowKit Go.Maps Go.Shelf
variable {es:Array MapEntry} {ep n' now num:Int} {k:Jk} {L:LV} {cap cl qb tb:Nat} {a:Option Addr} {v:SV} {s:Sg} {t:Tok} {tv:Value} {X w:D}
theorem jy(s:Sg)(w:D):(method 518 195 (.agg #[I s.t,I s.se,I s.we]) "Kind").run prog w=.ok (334,.agg #[I s.t,I s.se,I s.we]) w:=by kernel_rfl
theorem jH(s:Sg)(w:D):(method 518 195 (.agg #[I s.t,I s.se,I s.we]) "Segment").run prog w=.ok (335,.agg #[I s.t,I s.se,I s.we]) w:=by kernel_rfl
theorem zai(s:Sg)(w:D):(method 518 195 (.agg #[I s.t,I s.se,I s.we]) "Due").run prog w=.ok (333,.agg #[I s.t,I s.se,I s.we]) w:=by kernel_rfl
theorem kind_Roll(s:Sg)(w:D):Calls prog 334 #[.agg #[I s.t,I s.se,I s.we]] w (Rz w (I 1)):=by
 go_in;go_wp2_with fail;go_ret;exact⟨rfl,(Q _ _).alloc (J _) _⟩
theorem segm_Roll(s:Sg)(w:D):Calls prog 335 #[.agg #[I s.t,I s.se,I s.we]] w (Rz w (.agg #[I s.t,I s.se,I s.we])):=by
 obtain⟨c,b,a,d⟩:=box2 w (.cells #[I s.t,I s.se,I s.we] 195) (.cells #[I s.t,I s.se,I s.we] 146);go_in;go_wp2_with fail;refine bodyPost_ret (v:=.agg #[I s.t,I s.se,I s.we]) (results_cell_row results335 _ _ (w.1.size+1) _ _ _ _ rfl b underlying146 rfl (by kernel_rfl)) rfl ?_;exact⟨rfl,a⟩
theorem keyOf_Roll(s:Sg)(w:D):Calls prog 102 #[.iface 195 (.agg #[I s.t,I s.se,I s.we])] w (Rz w (.agg #[I 1,I s.t,I s.se,I s.we])):=by
 have b0:=zo w zcI;have m:=zE w zcI;have g:B_ w (w.alloc zcI):=(Q _ _).alloc (J _) _;have p:=fun W=>ze (kind_Roll s W);have q:=fun W=>ze (segm_Roll s W);have B0:=ze b0;have n:=ze m;have h:=ze g;clear b0 m g;have x:=jy s;have y:=jH s;go_in;go_wp2_with(first
  |(go_at_call 334;refine(p _).mono ?_;rintro e w1 ⟨rfl,a⟩;have c:=ze a;clear a)
  |(go_at_call 335;refine(q _).mono ?_;rintro e w2 ⟨rfl,b⟩;have d:w.1.size<(w.alloc zcI).1.size:=(by rw[ud n];omega);have f:=(b.block w.1.size (S d c.size)).trans ((c.block w.1.size d).trans B0);obtain⟨z,B,C,F,-⟩:=zc f;have G:=fun j=>zI f j;have u:=zd f;have o:=ze f;have k:=ze b;clear b f d))
 have r:=xq (i:=3) (xq (i:=2) (xq (i:=1) (xq (i:=0) o (I 1)) (I s.t)) (I s.se)) (I s.we);refine bodyPost_ret (v:=.agg #[I 1,I s.t,I s.se,I s.we]) (results_cell_row results102 _ _ w.1.size _ _ _ _ rfl r underlying162 rfl (by kernel_rfl)) rfl ?_;have l:=ud h;have a:=ud c;have b:=ud k;exact⟨rfl,(l.trans (a.mono l.size)).trans ((b.mono (Nat.le_trans l.size a.size)).trans (below4 (J _) _ _ _ _))⟩
theorem kE(s:Sg)(w:D):(method 518 197 (.agg #[I s.t,I s.se,I s.we]) "Kind").run prog w=.ok (337,.agg #[I s.t,I s.se,I s.we]) w:=by kernel_rfl
theorem vn(s:Sg)(w:D):(method 518 197 (.agg #[I s.t,I s.se,I s.we]) "Segment").run prog w=.ok (338,.agg #[I s.t,I s.se,I s.we]) w:=by kernel_rfl
theorem YD(s:Sg)(w:D):(method 518 197 (.agg #[I s.t,I s.se,I s.we]) "Due").run prog w=.ok (336,.agg #[I s.t,I s.se,I s.we]) w:=by kernel_rfl
theorem kind_Reclaim(s:Sg)(w:D):Calls prog 337 #[.agg #[I s.t,I s.se,I s.we]] w (Rz w (I 2)):=by
 go_in;go_wp2_with fail;go_ret;exact⟨rfl,(Q _ _).alloc (J _) _⟩
theorem segm_Reclaim(s:Sg)(w:D):Calls prog 338 #[.agg #[I s.t,I s.se,I s.we]] w (Rz w (.agg #[I s.t,I s.se,I s.we])):=by
 obtain⟨c,b,a,d⟩:=box2 w (.cells #[I s.t,I s.se,I s.we] 197) (.cells #[I s.t,I s.se,I s.we] 146);go_in;go_wp2_with fail;refine bodyPost_ret (v:=.agg #[I s.t,I s.se,I s.we]) (results_cell_row results338 _ _ (w.1.size+1) _ _ _ _ rfl b underlying146 rfl (by kernel_rfl)) rfl ?_;exact⟨rfl,a⟩
theorem keyOf_Reclaim(s:Sg)(w:D):Calls prog 102 #[.iface 197 (.agg #[I s.t,I s.se,I s.we])] w (Rz w (.agg #[I 2,I s.t,I s.se,I s.we])):=by
 have b0:=zo w zcI;have m:=zE w zcI;have g:B_ w (w.alloc zcI):=(Q _ _).alloc (J _) _;have p:=fun W=>ze (kind_Reclaim s W);have q:=fun W=>ze (segm_Reclaim s W);have B0:=ze b0;have n:=ze m;have h:=ze g;clear b0 m g;have x:=kE s;have y:=vn s;go_in;go_wp2_with(first
  |(go_at_call 337;refine(p _).mono ?_;rintro e w1 ⟨rfl,a⟩;have c:=ze a;clear a)
  |(go_at_call 338;refine(q _).mono ?_;rintro e w2 ⟨rfl,b⟩;have d:w.1.size<(w.alloc zcI).1.size:=(by rw[ud n];omega);have f:=(b.block w.1.size (S d c.size)).trans ((c.block w.1.size d).trans B0);obtain⟨z,B,C,F,-⟩:=zc f;have G:=fun j=>zI f j;have u:=zd f;have o:=ze f;have k:=ze b;clear b f d))
 have r:=xq (i:=3) (xq (i:=2) (xq (i:=1) (xq (i:=0) o (I 2)) (I s.t)) (I s.se)) (I s.we);refine bodyPost_ret (v:=.agg #[I 2,I s.t,I s.se,I s.we]) (results_cell_row results102 _ _ w.1.size _ _ _ _ rfl r underlying162 rfl (by kernel_rfl)) rfl ?_;have l:=ud h;have a:=ud c;have b:=ud k;exact⟨rfl,(l.trans (a.mono l.size)).trans ((b.mono (Nat.le_trans l.size a.size)).trans (below4 (J _) _ _ _ _))⟩
structure zN(w:D)(b:Nat)(c:Cf)(tv:Value)(ep num:Int)(tb qb:Nat)(TL:List (Jk×Tsk))(QL:List (Tok×Lse)):Prop where
 head:w.1[b]?=E (.cells #[I c.s,I c.le,I c.la,I c.wi,I c.ke,I c.qu,tv,I ep,I num,.map (E tb),.map (E qb)] 171 (0,0))
 tg:xn qh w tb TL
 leases:xn xJ w qb QL
 apart:tb≠qb
def Ze(b tb qb:Nat)(k:Nat):Prop:=k=b\/k=tb\/k=qb
section
variable {w w':D} {b:Nat} {c:Cf} {tv:Value} {ep num:Int} {tb qb:Nat} {TL:List (Jk×Tsk)} {QL:List (Tok×Lse)}
theorem zN.lt(h:zN w b c tv ep num tb qb TL QL):b<w.1.size:=zd h.head
theorem zN.kept{f:Nat->Prop}(h:zN w b c tv ep num tb qb TL QL)(a:zj f w w')(hn:∀k,Ze b tb qb k->¬f k):zN w' b c tv ep num tb qb TL QL:=
 ⟨a.heap h.head (hn b (.inl rfl)),h.tg.kept a (hn tb (.inr (.inl rfl))),h.leases.kept a (hn qb (.inr (.inr rfl))),h.apart⟩
theorem zN.later(h:zN w b c tv ep num tb qb TL QL)(a:B_ w w'):zN w' b c tv ep num tb qb TL QL:=h.kept (f:=fun _=>False) (zj.of_below a) (fun _ _ d=>d)
theorem zN.foot_lt(h:zN w b c tv ep num tb qb TL QL):∀k,Ze b tb qb k->k<w.1.size:=fun k a=>by
 rcases a with rfl|rfl|rfl
 ·exact h.lt
 ·exact h.tg.lt
 ·exact h.leases.lt
theorem zN.tb_ne(h:zN w b c tv ep num tb qb TL QL):tb≠b:=fun e=>by
 obtain⟨es,cl,a,_⟩:=h.tg;rw[e,h.head]at a;cases a
theorem zN.qb_ne(h:zN w b c tv ep num tb qb TL QL):qb≠b:=fun e=>by
 obtain⟨es,cl,a,_⟩:=h.leases;rw[e,h.head]at a;cases a
theorem zN.putTasks(h:zN w b c tv ep num tb qb TL QL){TL':List (Jk×Tsk)}(d:xn qh w' tb TL')(a:zj (fun k=>k=tb) w w'):zN w' b c tv ep num tb qb TL' QL:=
 ⟨a.heap h.head (fun e=>h.tb_ne e.symm),d,h.leases.kept a (fun e=>h.apart e.symm),h.apart⟩
theorem zN.cell9(h:zN w b c tv ep num tb qb TL QL):w.cell? (U b 9)=E (.map (E tb)):=by rw[xd h.head];rfl
theorem zN.cell10(h:zN w b c tv ep num tb qb TL QL):w.cell? (U b 10)=E (.map (E qb)):=by rw[xd h.head];rfl
end
variable {c:Cf} {TL:List (Jk×Tsk)} {QL:List (Tok×Lse)}
theorem YP{w':D}{b:Nat}(h:zN w b c tv ep num tb qb TL QL)(a:B_ w w'):Ending.returned (.tuple #[])=.returned (.tuple #[])/\zN w' b c tv ep num tb qb TL QL/\zj (fun k=>k=tb) w w':=⟨rfl,h.later a,zj.of_below a⟩
variable {TL':List (Jk×Tsk)}
theorem zbg{V W:D}{b:Nat}(h:zN w b c tv ep num tb qb TL QL)(a:B_ w V)(g:xn qh W tb TL')(d:zj (fun k=>k=tb) V W):Ending.returned (.tuple #[])=.returned (.tuple #[])/\zN W b c tv ep num tb qb TL' QL/\zj (fun k=>k=tb) w W:=
 ⟨rfl,(h.later a).putTasks g d,(zj.of_below (f:=fun k=>k=tb) a).trans d (fun _ _ e=>e)⟩
def Vz(t:Option Tsk):Value:=match t with
 |none=> .agg #[.nilIface,I 0,I 0,I 0]
 |some x=>Qw x
theorem zbC(h:xn qh X tb TL)(c:k.wf):(Instr.lookup 169 (.map (E tb)) (.agg #[I k.kd,I k.s.t,I k.s.se,I k.s.we]) true).run prog X=.ok (.tuple #[Vz (zU TL k),.bool (zU TL k).isSome]) X:=by
 have a:=kV yZ true h c;cases b:zU TL k with
 |none=>rw[b]at a;exact a
 |some t=>rw[b]at a;exact a
theorem zhc(h:xn qh X tb TL)(b:TL.length<maxLen)(a:(⟨1,s⟩:Jk).wf)(now:Int):
  ∃o,(Instr.mapUpdate 169 (.map (E tb)) (.agg #[I 1,I s.t,I s.se,I s.we]) (.agg #[.iface 195 (.agg #[I s.t,I s.se,I s.we]),I now,I 0,I 0])).run prog X=.ok () (setBlock X tb o)/\xn qh (setBlock X tb o) tb (qM TL ⟨1,s⟩ ⟨true,s,now,0,0⟩)/\zj (fun k=>k=tb) X (setBlock X tb o)/\o.isCells=false:=
 jJ yZ h b a (⟨true,s,now,0,0⟩:Tsk)
theorem zjp{b:Nat}(h:zN w b c tv ep num tb qb TL QL)(s:Sg)(T:s.wf)(now:Int)(a1:TL.length<=100000):
  Calls prog 113 #[(O b),.iface 195 (.agg #[I s.t,I s.se,I s.we]),I now] w fun e w'=>e=.returned (.tuple #[])/\zN w' b c tv ep num tb qb (match zU TL ⟨1,s⟩with|some _=>TL|none=>qM TL ⟨1,s⟩ ⟨true,s,now,0,0⟩) QL/\zj (fun k=>k=tb) w w':=by
 have z:(⟨1,s⟩:Jk).wf:=⟨by unfold xX;simp,T⟩;have i:=h.lt;have x:=h.cell9;have v:=fun W=>ze (keyOf_Roll s W);have f:=fun X hX=>zbC (h.tg.later (w':=X) hX) z;dsimp only at f;have u:=ze h;cases hg:zU TL ⟨1,s⟩with
 |some t=>
  rw[hg]at f
  dsimp only[Option.isSome,Vz,Qw]at f
  clear h T
  go_in
  go_wp2_with fail
  go_region_held3 (fun w'=>w'.cell? (U b 9)=E (.map (E tb))) (go_keep) (first
   |(go_at_call 102;refine(v _).mono ?_;rintro e g ⟨rfl,d⟩;first|(have a:B_ w g:=(by first|exact(Q w.1.size w).trans (d.mono (J _))|exact((Q w.1.size w).drew).trans (d.mono (J _)));have F:=(a.cell (p:=(U b 9)) i).trans x;have m:=S i a.size;have G:=f g a;have H:=fun o=>f (g.alloc o) (a.alloc a.size o);have K:=f g.drew a.drew;have L:=fun o=>f (g.alloc o).drew (a.alloc a.size o).drew;have l:=ze a;clear d a)|(have a:B_ w g:=(by first|exact((Q w.1.size w).drew.alloc (J _) _).trans (d.mono (by simp))|exact(((Q w.1.size w).alloc (J _) _).drew).trans (d.mono (by simp)));have n:g.1[w.1.size]?=E (.cells #[.nilIface,I 0,I 0,I 0] 177 (0,0)):=(by first|exact(d.block _ (by simp)).trans (zo w.drew _)|exact(d.block _ (by simp)).trans (zo w _));have u0:g.cell? (U w.1.size 0)=E .nilIface:=(by rw[xd n];rfl);obtain⟨-,u1,u2,u3,-⟩:=zc n;have uf:=fun j=>zI n j;have Z:=zd n;have V:¬b=w.1.size:=(by omega);have B:¬w.1.size=b:=(by omega);have HQ:=ze n;clear n;have F:=(a.cell (p:=(U b 9)) i).trans x;have m:=S i a.size;have G:=f g a;have H:=fun o=>f (g.alloc o) (a.alloc a.size o);have K:=f g.drew a.drew;have L:=fun o=>f (g.alloc o).drew (a.alloc a.size o).drew;have l:=ze a;clear d a)))
  all_goals(go_wp2_with fail)
  all_goals(go_end0;first|exact YP u (l.alloc l.size _)|exact YP u (l.trans (below4 (J _) _ _ _ _)))
 |none=>
  rw[hg]at f
  dsimp only[Option.isSome,Vz]at f
  have N:=ze z
  clear h T
  go_in
  go_wp2_with fail
  go_region_held3 (fun w'=>w'.cell? (U b 9)=E (.map (E tb))) (go_keep) (first
   |(go_at_call 102;refine(v _).mono ?_;rintro e g ⟨rfl,d⟩;first|(have a:B_ w g:=(by first|exact(Q w.1.size w).trans (d.mono (J _))|exact((Q w.1.size w).drew).trans (d.mono (J _)));have F:=(a.cell (p:=(U b 9)) i).trans x;have m:=S i a.size;have G:=f g a;have H:=fun o=>f (g.alloc o) (a.alloc a.size o);have K:=f g.drew a.drew;have L:=fun o=>f (g.alloc o).drew (a.alloc a.size o).drew;have l:=ze a;clear d a)|(have a:B_ w g:=(by first|exact((Q w.1.size w).drew.alloc (J _) _).trans (d.mono (by simp))|exact(((Q w.1.size w).alloc (J _) _).drew).trans (d.mono (by simp)));have n:g.1[w.1.size]?=E (.cells #[.nilIface,I 0,I 0,I 0] 177 (0,0)):=(by first|exact(d.block _ (by simp)).trans (zo w.drew _)|exact(d.block _ (by simp)).trans (zo w _));have u0:g.cell? (U w.1.size 0)=E .nilIface:=(by rw[xd n];rfl);obtain⟨-,u1,u2,u3,-⟩:=zc n;have uf:=fun j=>zI n j;have Z:=zd n;have V:¬b=w.1.size:=(by omega);have B:¬w.1.size=b:=(by omega);have HQ:=ze n;clear n;have F:=(a.cell (p:=(U b 9)) i).trans x;have m:=S i a.size;have G:=f g a;have H:=fun o=>f (g.alloc o) (a.alloc a.size o);have K:=f g.drew a.drew;have L:=fun o=>f (g.alloc o).drew (a.alloc a.size o).drew;have l:=ze a;clear d a)))
  all_goals(go_wp2_with fail)
  all_goals clear G H K L f x m
  all_goals(first
   |(show Code.wp _ _ _ _ (World.alloc g _);have y:=l.alloc l.size (.cells #[.nilIface,I 0,I 0,I 0] 177);generalize(g.alloc (.cells #[.nilIface,I 0,I 0,I 0] 177))=Y at*)
   |(have y:=l.trans (below4 (w:=g) (J w.1.size) .nilIface (I 0) (I 0) (I 0));generalize((((g.setCell (U w.1.size 0) .nilIface).setCell (U w.1.size 1) (I 0)).setCell (U w.1.size 2) (I 0)).setCell (U w.1.size 3) (I 0))=Y at*))
  all_goals(have x:=(y.cell (p:=(U b 9)) i).trans u.cell9;have a0:=S i y.size;have C:=ze y;clear y F l)
  all_goals(go_region_held3 (fun w'=>w'.cell? (U b 9)=E (.map (E tb))) (go_keep) (first
   |(go_at_call 102;refine(v _).mono ?_;rintro e V2 ⟨rfl,r⟩;have q:B_ w V2:=(by first|exact C.trans (r.mono C.size)|exact C.drew.trans (r.mono C.size));have m9:=(q.cell (p:=(U b 9)) i).trans u.cell9;obtain⟨o,a2,hm,R,ho⟩:=zhc ((ud u).tg.later q) (by simp only[maxLen];omega) N now;have n9:(setBlock V2 tb o).cell? (U b 9)=E (.map (E tb)):=(by have hh:=R.heap (u.later q).head (fun e=>u.tb_ne e.symm);rw[xd hh];rfl);have P:=ze q;have HM:=ze hm;have M:=ze R;clear r q hm R))
  )
  all_goals(go_wp2_with fail)
  all_goals(go_end0;exact zbg u P HM M)
theorem zaL(h:xn qh X tb TL)(b:TL.length<maxLen)(a:(⟨2,s⟩:Jk).wf)(now:Int):
  ∃o,(Instr.mapUpdate 169 (.map (E tb)) (.agg #[I 2,I s.t,I s.se,I s.we]) (.agg #[.iface 197 (.agg #[I s.t,I s.se,I s.we]),I now,I 0,I 0])).run prog X=.ok () (setBlock X tb o)/\xn qh (setBlock X tb o) tb (qM TL ⟨2,s⟩ ⟨false,s,now,0,0⟩)/\zj (fun k=>k=tb) X (setBlock X tb o)/\o.isCells=false:=
 jJ yZ h b a (⟨false,s,now,0,0⟩:Tsk)
theorem zbX{b:Nat}(h:zN w b c tv ep num tb qb TL QL)(s:Sg)(T:s.wf)(now:Int)(a1:TL.length<=100000):
  Calls prog 113 #[(O b),.iface 197 (.agg #[I s.t,I s.se,I s.we]),I now] w fun e w'=>e=.returned (.tuple #[])/\zN w' b c tv ep num tb qb (match zU TL ⟨2,s⟩with|some _=>TL|none=>qM TL ⟨2,s⟩ ⟨false,s,now,0,0⟩) QL/\zj (fun k=>k=tb) w w':=by
 have z:(⟨2,s⟩:Jk).wf:=⟨by unfold xX;simp,T⟩;have i:=h.lt;have x:=h.cell9;have v:=fun W=>ze (keyOf_Reclaim s W);have f:=fun X hX=>zbC (h.tg.later (w':=X) hX) z;dsimp only at f;have u:=ze h;cases hg:zU TL ⟨2,s⟩with
 |some t=>
  rw[hg]at f
  dsimp only[Option.isSome,Vz,Qw]at f
  clear h T
  go_in
  go_wp2_with fail
  go_region_held3 (fun w'=>w'.cell? (U b 9)=E (.map (E tb))) (go_keep) (first
   |(go_at_call 102;refine(v _).mono ?_;rintro e g ⟨rfl,d⟩;first|(have a:B_ w g:=(by first|exact(Q w.1.size w).trans (d.mono (J _))|exact((Q w.1.size w).drew).trans (d.mono (J _)));have F:=(a.cell (p:=(U b 9)) i).trans x;have m:=S i a.size;have G:=f g a;have H:=fun o=>f (g.alloc o) (a.alloc a.size o);have K:=f g.drew a.drew;have L:=fun o=>f (g.alloc o).drew (a.alloc a.size o).drew;have l:=ze a;clear d a)|(have a:B_ w g:=(by first|exact((Q w.1.size w).drew.alloc (J _) _).trans (d.mono (by simp))|exact(((Q w.1.size w).alloc (J _) _).drew).trans (d.mono (by simp)));have n:g.1[w.1.size]?=E (.cells #[.nilIface,I 0,I 0,I 0] 177 (0,0)):=(by first|exact(d.block _ (by simp)).trans (zo w.drew _)|exact(d.block _ (by simp)).trans (zo w _));have u0:g.cell? (U w.1.size 0)=E .nilIface:=(by rw[xd n];rfl);obtain⟨-,u1,u2,u3,-⟩:=zc n;have uf:=fun j=>zI n j;have Z:=zd n;have V:¬b=w.1.size:=(by omega);have B:¬w.1.size=b:=(by omega);have HQ:=ze n;clear n;have F:=(a.cell (p:=(U b 9)) i).trans x;have m:=S i a.size;have G:=f g a;have H:=fun o=>f (g.alloc o) (a.alloc a.size o);have K:=f g.drew a.drew;have L:=fun o=>f (g.alloc o).drew (a.alloc a.size o).drew;have l:=ze a;clear d a)))
  all_goals(go_wp2_with fail)
  all_goals(go_end0;first|exact YP u (l.alloc l.size _)|exact YP u (l.trans (below4 (J _) _ _ _ _)))
 |none=>
  rw[hg]at f
  dsimp only[Option.isSome,Vz]at f
  have N:=ze z
  clear h T
  go_in
  go_wp2_with fail
  go_region_held3 (fun w'=>w'.cell? (U b 9)=E (.map (E tb))) (go_keep) (first
   |(go_at_call 102;refine(v _).mono ?_;rintro e g ⟨rfl,d⟩;first|(have a:B_ w g:=(by first|exact(Q w.1.size w).trans (d.mono (J _))|exact((Q w.1.size w).drew).trans (d.mono (J _)));have F:=(a.cell (p:=(U b 9)) i).trans x;have m:=S i a.size;have G:=f g a;have H:=fun o=>f (g.alloc o) (a.alloc a.size o);have K:=f g.drew a.drew;have L:=fun o=>f (g.alloc o).drew (a.alloc a.size o).drew;have l:=ze a;clear d a)|(have a:B_ w g:=(by first|exact((Q w.1.size w).drew.alloc (J _) _).trans (d.mono (by simp))|exact(((Q w.1.size w).alloc (J _) _).drew).trans (d.mono (by simp)));have n:g.1[w.1.size]?=E (.cells #[.nilIface,I 0,I 0,I 0] 177 (0,0)):=(by first|exact(d.block _ (by simp)).trans (zo w.drew _)|exact(d.block _ (by simp)).trans (zo w _));have u0:g.cell? (U w.1.size 0)=E .nilIface:=(by rw[xd n];rfl);obtain⟨-,u1,u2,u3,-⟩:=zc n;have uf:=fun j=>zI n j;have Z:=zd n;have V:¬b=w.1.size:=(by omega);have B:¬w.1.size=b:=(by omega);have HQ:=ze n;clear n;have F:=(a.cell (p:=(U b 9)) i).trans x;have m:=S i a.size;have G:=f g a;have H:=fun o=>f (g.alloc o) (a.alloc a.size o);have K:=f g.drew a.drew;have L:=fun o=>f (g.alloc o).drew (a.alloc a.size o).drew;have l:=ze a;clear d a)))
  all_goals(go_wp2_with fail)
  all_goals clear G H K L f x m
  all_goals(first
   |(show Code.wp _ _ _ _ (World.alloc g _);have y:=l.alloc l.size (.cells #[.nilIface,I 0,I 0,I 0] 177);generalize(g.alloc (.cells #[.nilIface,I 0,I 0,I 0] 177))=Y at*)
   |(have y:=l.trans (below4 (w:=g) (J w.1.size) .nilIface (I 0) (I 0) (I 0));generalize((((g.setCell (U w.1.size 0) .nilIface).setCell (U w.1.size 1) (I 0)).setCell (U w.1.size 2) (I 0)).setCell (U w.1.size 3) (I 0))=Y at*))
  all_goals(have x:=(y.cell (p:=(U b 9)) i).trans u.cell9;have a0:=S i y.size;have C:=ze y;clear y F l)
  all_goals(go_region_held3 (fun w'=>w'.cell? (U b 9)=E (.map (E tb))) (go_keep) (first
   |(go_at_call 102;refine(v _).mono ?_;rintro e V2 ⟨rfl,r⟩;have q:B_ w V2:=(by first|exact C.trans (r.mono C.size)|exact C.drew.trans (r.mono C.size));have m9:=(q.cell (p:=(U b 9)) i).trans u.cell9;obtain⟨o,a2,hm,R,ho⟩:=zaL ((ud u).tg.later q) (by simp only[maxLen];omega) N now;have n9:(setBlock V2 tb o).cell? (U b 9)=E (.map (E tb)):=(by have hh:=R.heap (u.later q).head (fun e=>u.tb_ne e.symm);rw[xd hh];rfl);have P:=ze q;have HM:=ze hm;have M:=ze R;clear r q hm R))
  )
  all_goals(go_wp2_with fail)
  all_goals(go_end0;exact zbg u P HM M)
def Zi(k:Nat):Nat:=2^min k 5
theorem XE(k:Nat):1<=Zi k/\Zi k<=32:=by
 unfold Zi;have h:min k 5<=5:=Nat.min_le_right _ _;generalize min k 5=j at*
 match j,h with
 |0,_=>simp
 |1,_=>simp
 |2,_=>simp
 |3,_=>simp
 |4,_=>simp
 |5,_=>simp
theorem zmV{k:Nat}(h:k<=5):((2:Int)^k<32↔k<5):=by
 match k,h with
 |0,_=>simp
 |1,_=>simp
 |2,_=>simp
 |3,_=>simp
 |4,_=>simp
 |5,_=>simp
theorem zmU{k:Nat}(h:k<=5):1<=(2:Int)^k/\(2:Int)^k<=32:=by
 match k,h with
 |0,_=>simp
 |1,_=>simp
 |2,_=>simp
 |3,_=>simp
 |4,_=>simp
 |5,_=>simp
theorem zmh(tc:Nat)(l:tc<=1000000000000)(w:D):
  Calls prog 115 #[I tc] w fun e w'=>e=.returned (I (Zi tc))/\w'=w:=by
 go_in;go_wp2_with fail;go_loopw [3,4] (fun x y wr=>∃(k:Nat),k<=5/\k<=tc/\x=I ((2:Int)^k)/\y=I k/\wr=w) (fun _ y _=>5-(intOf y).toNat);case atStart=>exact⟨0,by omega,Nat.zero_le _,by simp,rfl,rfl⟩
 case round=>
  obtain⟨k,a,g,rfl,rfl,rfl⟩:=hrel;obtain⟨h,i⟩:=zmU a;by_cases j:k<tc
  ·have d:(k:Int)<tc:=(by omega);by_cases f:k<5
   ·have b:(2:Int)^k<32:=(zmV a).2 f;have c:Hid ((2:Int)^k*2=2^(k+1)):=(by show(2:Int)^k*2=2^(k+1);rw[Int.pow_succ]);obtain⟨v,hv⟩:∃v,(2:Int)^k=v:=⟨_,rfl⟩;rw[hv]at c b h i ⊢;clear hv;go_wp2_with fail;go_roundw;case rel=>exact⟨k+1,by omega,by omega,by rw[<-ud c],by go_num,trivial⟩
    case measure=>simp[intOf];omega
   ·obtain rfl:k=5:=(by omega);go_wp2_with fail;go_ret;refine⟨?_,rfl⟩;unfold Zi;rw[show min tc 5=5 by omega];rfl
  ·obtain rfl:k=tc:=(by omega);go_wp2_with fail;go_ret;refine⟨?_,rfl⟩;unfold Zi;rw[show min k 5=k by omega];simp
theorem zhZ(x:Lse)(W:D):(Instr.field 164 (.agg (lZz x)) 0).run prog W=.ok (.agg #[I x.kd,I x.s.t,I x.s.se,I x.s.we]) W:=by kernel_rfl
variable {g:Lse}
theorem zag(h:xn xJ X qb QL)(c:t.wf)(b:zU QL t=E g):(Instr.lookup 168 (.map (E qb)) (.agg #[I t.ep,I t.num]) false).run prog X=.ok (.agg (lZz g)) X:=by
 have a:=kV yu false h c;rw[b]at a;exact a
variable {x:Tsk}
theorem zah(h:xn qh X tb TL)(b:k.wf)(c:zU TL k=E x):(Instr.lookup 169 (.map (E tb)) (.agg #[I k.kd,I k.s.t,I k.s.se,I k.s.we]) false).run prog X=.ok (.agg (tZz x)) X:=by
 have a:=kV yZ false h b;rw[c]at a;exact a
def Tsk.failed(x:Tsk)(now:Int):Tsk:=⟨x.rl,x.s,x.si,x.tc+1,now+Zi (x.tc+1).toNat⟩
theorem zkc(h:xn qh X tb TL)(d:TL.length<maxLen)(c:k.wf)(x:Tsk)(b a:Int):
  ∃o,(Instr.mapUpdate 169 (.map (E tb)) (.agg #[I k.kd,I k.s.t,I k.s.se,I k.s.we]) (.agg #[(jZz x),I x.si,I b,I a])).run prog X=.ok () (setBlock X tb o)/\xn qh (setBlock X tb o) tb (qM TL k ⟨x.rl,x.s,x.si,b,a⟩)/\zj (fun k=>k=tb) X (setBlock X tb o)/\o.isCells=false:=
 jJ yZ h d c (⟨x.rl,x.s,x.si,b,a⟩:Tsk)
theorem znw(h:xn xJ X qb QL)(g:t.wf)(c:TypeId):
  ∃o,(Builtin.delete_ #[168,49] c #[.map (E qb),.agg #[I t.ep,I t.num]]).run prog X=.ok (.tuple #[]) (setBlock X qb o)/\xn xJ (setBlock X qb o) qb (xB QL t)/\zj (fun k=>k=qb) X (setBlock X qb o):=by
 obtain⟨es,cl,b,f⟩:=h;obtain⟨a,d,e,i⟩:=YT yu b f g c;exact⟨.map a cl,d,⟨a,cl,xL (zd b) _,e⟩,xY _⟩
theorem zlb(b:X.1[qb]?=E (.map es cl))(h:ju xJ es cl QL)(i:t.wf)(c:TypeId):
  ∃a,(Builtin.delete_ #[168,49] c #[.map (E qb),.agg #[I t.ep,I t.num]]).run prog X=.ok (.tuple #[]) (setBlock X qb (.map a cl))/\(setBlock X qb (.map a cl)).1[qb]?=E (.map a cl)/\ju xJ a cl (xB QL t)/\(∀e,e∈a.toList↔e∈es.toList/\e.key≠yy t)/\zj (fun k=>k=qb) X (setBlock X qb (.map a cl)):=by
 obtain⟨a,d,f,g⟩:=YT yu b h i c;exact⟨a,d,xL (zd b) _,f,g,xY _⟩
theorem zer{b:Nat}(h:zN w b c tv ep num tb qb TL QL)(t:Tok)(ht:t.wf)(hg:zU QL t=E g)(a8:(⟨g.kd,g.s⟩:Jk).wf)(hx:zU TL ⟨g.kd,g.s⟩=E x)(now:Int)(aN:0<=now/\now<=100000)(aV:0<=x.tc/\x.tc<=1000000000)(aM:TL.length<=100000)(ac:w.1[qb]?=E (.map es cl))(ad:ju xJ es cl QL):
  Calls prog 56 #[(O b),.agg #[I t.ep,I t.num],I now] w fun e w'=>e=.returned (.tuple #[])/\zN w' b c tv ep num tb qb (qM TL ⟨g.kd,g.s⟩ (x.failed now)) (xB QL t)/\zj (fun k=>k=tb\/k=qb) w w'/\∃K,w'.1[qb]?=E (.map K cl)/\ju xJ K cl (xB QL t)/\∀e,e∈K.toList↔e∈es.toList/\e.key≠yy t:=by
 have ar:=h.lt;have y0:=zo w (.cells #[I t.ep,I t.num] 49);have yz:=zE w (.cells #[I t.ep,I t.num] 49);have a:B_ w (w.alloc (.cells #[I t.ep,I t.num] 49)):=(Q _ _).alloc (J _) _;obtain⟨k0,k1,-⟩:=zc y0;have aI:=(h.later a).cell10;have HL:=fun X hX=>zag (h.leases.later (w':=X) hX) ht hg;have g0:=HL _ a;have g1:=HL _ a.drew;have g2:=fun o=>HL _ (a.alloc a.size o);have g3:=fun o=>HL _ (a.alloc a.size o).drew;have g4:=fun o=>HL _ (a.drew.alloc a.drew.size o);have fl:=zhZ g;have R:w.1.size<(w.alloc (.cells #[I t.ep,I t.num] 49)).1.size:=by rw[yz];omega
 have aL:b<(w.alloc (.cells #[I t.ep,I t.num] 49)).1.size:=by rw[yz];omega
 have G:=ze h;have Y0:=ze y0;have a1:=ze a;have HT:=ze ht;have a2:=ze a8;have HG:=ze hg;have HX:=ze hx;have a6:=ze ac;have ak:=ze ad;clear h y0 yz a HL ht a8 hg hx ac ad;go_in;go_wp2_with fail;generalize(w.alloc (.cells #[I t.ep,I t.num] 49))=X at*;go_region
 have L:B_ X (X.alloc (.cells #[I g.kd,I g.s.t,I g.s.se,I g.s.we] 162)).drew:=((Q _ _).alloc (J _) _).drew;have P:(X.alloc (.cells #[I g.kd,I g.s.t,I g.s.se,I g.s.we] 162)).drew.1[X.1.size]?=E (.cells #[I g.kd,I g.s.t,I g.s.se,I g.s.we] 162 (0,0)):=zo _ _;have ag:(X.alloc (.cells #[I g.kd,I g.s.t,I g.s.se,I g.s.we] 162)).drew.1.size=X.1.size+1:=zE _ _;generalize(X.alloc (.cells #[I g.kd,I g.s.t,I g.s.se,I g.s.we] 162)).drew=Y at*;have d:B_ w Y:=a1.trans (L.mono a1.size);have y9:=(G.later d).cell9;obtain⟨aA,aB,aC,aD,-⟩:=zc P;have l:=fun V hV=>zah (k:=⟨g.kd,g.s⟩) (G.tg.later (w':=V) hV) a2 HX;dsimp only at l;clear g0 g1 g2 g3 g4 fl k0 k1 aI;have g0:=l Y d;have g1:=l Y.drew d.drew;have g2:=fun o=>l (Y.alloc o) (d.alloc d.size o);have g3:=fun o=>l (Y.alloc o).drew (d.alloc d.size o).drew;have g4:=fun o=>l (Y.drew.alloc o) (d.drew.alloc d.drew.size o);have aK:b<Y.1.size:=by omega
 have z:X.1.size<Y.1.size:=by omega
 have a3:=ze P;have H:=ze d;have aO:=ze ag;have aq:=ze L;clear P d ag L l;go_wp2_with fail;go_region
 have v:B_ Y (Y.alloc (.cells (tZz x) 177)).drew:=((Q _ _).alloc (J _) _).drew;have r:(Y.alloc (.cells (tZz x) 177)).drew.1[Y.1.size]?=E (.cells (tZz x) 177 (0,0)):=zo _ _;have aW:(Y.alloc (.cells (tZz x) 177)).drew.1.size=Y.1.size+1:=zE _ _;generalize(Y.alloc (.cells (tZz x) 177)).drew=Z at*;have af:B_ w Z:=H.trans (v.mono H.size);obtain⟨t0,t1,t2,t3,-⟩:=zc r;have tf:=fun j=>zI r j;have aP:=zd r;have B:=(v.block X.1.size z).trans a3;have HR:∀W,Hid (Calls prog 115 #[I (x.tc+1)] W fun e w'=>e=.returned (I (Zi (x.tc+1).toNat))/\w'=W):=fun W=>by
  have:=zmh (x.tc+1).toNat (by omega) W;rw[Int.toNat_of_nonneg (by omega)]at this;exact this
 obtain⟨q1,q2⟩:=XE (x.tc+1).toNat;obtain⟨F,y⟩:∃F:Nat,Zi (x.tc+1).toNat=F:=⟨_,rfl⟩;rw[y]at q1 q2;simp only[y]at HR;have al:=ze y;have an:=ze r;have ap:=ze af;have aj:=ze B;have ah:=ze v;clear g0 g1 g2 g3 g4 aA aB aC aD y9 r af v B y;go_wp2_with(first|(go_at_call 115;refine(HR _).mono ?_;rintro e Z2 ⟨rfl,rfl⟩));have hU:((Z.setCell (U Y.1.size 2) (I (x.tc+1))).setCell (U Y.1.size 3) (I (now+F))).1[Y.1.size]?=E (.cells #[(jZz x),I x.si,I (x.tc+1),I (now+F)] 177 (0,0)):=xq (i:=3) (xq (i:=2) an (I (x.tc+1))) (I (now+F));have u:A Y.1.size Z ((Z.setCell (U Y.1.size 2) (I (x.tc+1))).setCell (U Y.1.size 3) (I (now+F))):=((Q _ _).setCell (p:=(U Y.1.size 2)) (J _) _).setCell (p:=(U Y.1.size 3)) (J _) _;generalize((Z.setCell (U Y.1.size 2) (I (x.tc+1))).setCell (U Y.1.size 3) (I (now+F)))=U9 at*;have m:B_ w U9:=ap.trans (u.mono H.size);have N:=(u.block X.1.size z).trans aj;have a0:=(u.block w.1.size (by have:=R;omega)).trans ((ah.block w.1.size (by have:=R;omega)).trans ((aq.block w.1.size R).trans Y0));have u9:=(G.later m).cell9;obtain⟨aw,ax,ay,az,-⟩:=zc N;obtain⟨aE,aF,aG,aH,-⟩:=zc hU;have aU:=zd hU;have aR:=zd N;have aT:=zd a0;have aJ:b<U9.1.size:=S ar m.size;obtain⟨o,C,hm,hk,ho⟩:=zkc (X:=U9.drew) (k:=⟨g.kd,g.s⟩) ((ud G).tg.later m.drew) (by simp only[maxLen];omega) a2 x (x.tc+1) (now+F);dsimp only at C;have n:=(G.later m.drew).putTasks hm hk;have T:=hk.heap (k:=w.1.size) a0 (fun e=>by have:=G.foot_lt tb (.inr (.inl rfl));omega);have aX:=n.cell10;obtain⟨aY,aZ,-⟩:=zc T;have aS:=zd T;have aQ:=n.lt;have ab:(setBlock U9.drew tb o).1[qb]?=E (.map es cl):=hk.heap (k:=qb) ((m.block qb (zd a6)).trans a6) (fun e=>G.apart e.symm);obtain⟨a7,au,aa,a9,ae,q⟩:=zlb (X:=(setBlock U9.drew tb o).drew) ab ak HT 0;have HP:=ze n;have HK:=ze hk;have a5:=ze aa;have am:=ze ae;have a4:=ze a9;have ai:=ze q;have ao:=ze m;clear t0 t1 t2 t3 tf hU u N a0 m hm hk n T a9 q aa ae ab;go_region
 go_wp2_with fail;generalize setBlock U9.drew tb o=M at*;clear C u9 aw ax ay az aE aF aG aH;go_region
 go_wp2_with fail;go_end0;have hP:=ud HP;have q:=ud ai;have av:zj (fun k=>k=tb\/k=qb) w M:=(zj.of_below (f:=fun k=>k=tb\/k=qb) ao.drew).trans HK (fun _ _ e=> .inl e);refine⟨rfl,⟨q.heap hP.head (fun e=>hP.qb_ne e.symm),?_,⟨a7,cl,a5,a4⟩,hP.apart⟩,?_,a7,a5,a4,am⟩
 ·have:=(hP.tg.later (w':=M.drew) (Q _ _).drew).kept q (fun e=>hP.apart e);unfold Tsk.failed;rw[ud al];exact this
 ·exact(av.drew).trans q (fun _ _ e=> .inr e)
theorem znx(h:xn qh X tb TL)(g:k.wf)(c:TypeId):
  ∃o,(Builtin.delete_ #[169,162] c #[.map (E tb),.agg #[I k.kd,I k.s.t,I k.s.se,I k.s.we]]).run prog X=.ok (.tuple #[]) (setBlock X tb o)/\xn qh (setBlock X tb o) tb (xB TL k)/\zj (fun k=>k=tb) X (setBlock X tb o):=by
 obtain⟨es,cl,b,f⟩:=h;obtain⟨a,d,e,i⟩:=YT yZ b f g c;exact⟨.map a cl,d,⟨a,cl,xL (zd b) _,e⟩,xY _⟩
theorem zlc{b:Nat}(h:zN w b c tv ep num tb qb TL QL)(t:Tok)(v:t.wf)(C:zU QL t=E g)(n:(⟨g.kd,g.s⟩:Jk).wf):
  Calls prog 54 #[(O b),.agg #[I t.ep,I t.num]] w fun e w'=>e=.returned (.tuple #[])/\zN w' b c tv ep num tb qb (xB TL ⟨g.kd,g.s⟩) (xB QL t)/\zj (fun k=>k=tb\/k=qb) w w':=by
 have Y:=h.lt;have H:=zo w (.cells #[I t.ep,I t.num] 49);have K:=zE w (.cells #[I t.ep,I t.num] 49);have a:B_ w (w.alloc (.cells #[I t.ep,I t.num] 49)):=(Q _ _).alloc (J _) _;obtain⟨k0,k1,-⟩:=zc H;have x9:=(h.later a).cell9;have G:=(h.later a).cell10;have U:=zag ((h.later a).leases) v C;have V:=zag ((h.later a.drew).leases) v C;have T:=zhZ g;have Z:w.1.size<(w.alloc (.cells #[I t.ep,I t.num] 49)).1.size:=by rw[K];omega
 have L:b<(w.alloc (.cells #[I t.ep,I t.num] 49)).1.size:=by rw[K];omega
 obtain⟨o,i,N,u⟩:=znx (X:=(w.alloc (.cells #[I t.ep,I t.num] 49)).drew) (k:=⟨g.kd,g.s⟩) ((h.later a.drew).tg) n 0;dsimp only at i;have j:=(h.later a.drew).putTasks N u;have q:=u.heap (k:=w.1.size) (show(w.alloc (.cells #[I t.ep,I t.num] 49)).drew.1[w.1.size]?=_ from H) (fun e=>by have:=h.foot_lt tb (.inr (.inl rfl));omega);have HH:=ze h;have x:=ze a;have R:=ze v;have r:=ze j;have P:=ze u;have l:=ze q;clear h H K a n C v N j u q;go_in;go_wp2_with fail;generalize(w.alloc (.cells #[I t.ep,I t.num] 49))=X at*;go_region
 go_wp2_with fail;generalize setBlock X.drew tb o=M at*;have a1:=r.cell10;obtain⟨a2,a3,-⟩:=zc l;have a0:=zd l;have W:=r.lt;obtain⟨o3,B,p,d⟩:=znw (X:=M.drew) r.leases R 0;have z:=ze p;have y:=ze d;clear U V T k0 k1 x9 G i p d;go_region
 go_wp2_with fail;go_end0;have m:=ud r;have d:=ud y;have F:zj (fun k=>k=tb\/k=qb) w M:=(zj.of_below (f:=fun k=>k=tb\/k=qb) x.drew).trans P (fun _ _ e=> .inl e);refine⟨rfl,⟨d.heap m.head (fun e=>m.qb_ne e.symm),(m.tg.later (w':=M.drew) (Q _ _).drew).kept d (fun e=>m.apart e),z,m.apart⟩,(F.drew).trans d (fun _ _ e=> .inr e)⟩
def zmR(o:Option Tsk):Value:=match o with
 |none=> .nilIface
 |some x=>(jZz x)
theorem znA(o:Option Tsk)(W:D):(Instr.field 177 (Vz o) 0).run prog W=.ok (zmR o) W:=by
 cases o with
 |none=>kernel_rfl
 |some x=>kernel_rfl
def yU(o:Option Lse):Lse:=o.getD ⟨0,⟨0,0,0⟩,0,0⟩
theorem ziC(h:xn xJ X qb QL)(c:t.wf):(Instr.lookup 168 (.map (E qb)) (.agg #[I t.ep,I t.num]) true).run prog X=.ok (.tuple #[.agg #[I (yU (zU QL t)).kd,I (yU (zU QL t)).s.t,I (yU (zU QL t)).s.se,I (yU (zU QL t)).s.we,I (yU (zU QL t)).slot,I (yU (zU QL t)).til],.bool (zU QL t).isSome]) X:=by
 have a:=kV yu true h c;cases b:zU QL t with
 |none=>rw[b]at a;exact a
 |some g=>rw[b]at a;exact a
theorem ziD(h:xn qh X tb TL)(c:k.wf):(Instr.lookup 169 (.map (E tb)) (.agg #[I k.kd,I k.s.t,I k.s.se,I k.s.we]) false).run prog X=.ok (Vz (zU TL k)) X:=by
 have a:=kV yZ false h c;cases b:zU TL k with
 |none=>rw[b]at a;exact a
 |some g=>rw[b]at a;exact a
theorem jW{b:Nat}(h:zN w b c tv ep num tb qb TL QL)(t:Tok)(G:t.wf)(q:(⟨(yU (zU QL t)).kd,(yU (zU QL t)).s⟩:Jk).wf):
  Calls prog 51 #[(O b),.agg #[I t.ep,I t.num]] w (Rz w (.tuple #[zmR (zU TL ⟨(yU (zU QL t)).kd,(yU (zU QL t)).s⟩),.bool (zU QL t).isSome])):=by
 have P:=h.lt;have H:=zo w (.cells #[I t.ep,I t.num] 49);have z:=zE w (.cells #[I t.ep,I t.num] 49);have a:B_ w (w.alloc (.cells #[I t.ep,I t.num] 49)):=(Q _ _).alloc (J _) _;obtain⟨U,V,-⟩:=zc H;have y:=(h.later a).cell10;have f:=fun X n=>ziC (h.leases.later (w':=X) n) G;have d:=fun X n=>ziD (h.tg.later (w':=X) n) q;dsimp only at d;obtain⟨g,v⟩:∃g,yU (zU QL t)=g:=⟨_,rfl⟩;obtain⟨ok,l⟩:∃ok,(zU QL t).isSome=ok:=⟨_,rfl⟩;rw[v]at d ⊢;rw[l];rw[v,l]at f;obtain⟨x,r⟩:∃x,zU TL ⟨g.kd,g.s⟩=x:=⟨_,rfl⟩;rw[r]at d ⊢;have B:=f _ a;have C:=f _ a.drew;have L:=fun o=>f _ (a.alloc a.size o);have M:=fun o=>f _ (a.alloc a.size o).drew;have N:=fun o=>f _ (a.drew.alloc a.drew.size o);have R:w.1.size<(w.alloc (.cells #[I t.ep,I t.num] 49)).1.size:=by rw[z];omega
 have p:b<(w.alloc (.cells #[I t.ep,I t.num] 49)).1.size:=by rw[z];omega
 have K:=ze h;have m:=ze a;have i:=fun X n=>ze (d X n);clear h H z a f G q v l r d;go_in;go_wp2_with fail;generalize(w.alloc (.cells #[I t.ep,I t.num] 49))=X at*;go_region
 have j:B_ X (X.alloc (.cells (lZz g) 164)).drew:=((Q _ _).alloc (J _) _).drew;have k:(X.alloc (.cells (lZz g) 164)).drew.1[X.1.size]?=E (.cells (lZz g) 164 (0,0)):=zo _ _;generalize(X.alloc (.cells (lZz g) 164)).drew=Y at*;have e:B_ w Y:=m.trans (j.mono m.size);have y9:=(K.later e).cell9;obtain⟨W,Z,a0,a1,-⟩:=zc k;have T:=zd k;have F:b<Y.1.size:=S p j.size;clear B C L M N U V y;have B:=ud (i Y e);have C:=ud (i Y.drew e.drew);have fl:=znA x;have u:=ze e;clear k e j i;go_wp2_with fail;go_region
 go_wp2_with fail;go_ret2;exact⟨rfl,u.drew⟩
inductive zcC (now:Int) (TL:List (Jk×Tsk)) (QL:List (Tok×Lse)):List (Jk×Tsk)->List (Tok×Lse)->Prop
 |nil:zcC now TL QL TL QL
 |step {T1:List (Jk×Tsk)} {Q1:List (Tok×Lse)} {t:Tok} {g:Lse} {x:Tsk}:zcC now TL QL T1 Q1->zU Q1 t=E g->g.til<=now->zU T1 ⟨g.kd,g.s⟩=E x->zcC now TL QL (qM T1 ⟨g.kd,g.s⟩ (x.failed now)) (xB Q1 t)
structure zmH(B:Int)(n:Nat)(TL:List (Jk×Tsk))(QL:List (Tok×Lse)):Prop where
 job:∀p,p∈QL->∃x,zU TL ⟨p.2.kd,p.2.s⟩=E x
 tc:∀p,p∈TL->0<=p.2.tc/\p.2.tc+QL.length<=B
 wfk:∀p,p∈TL->p.1.wf
 len:TL.length<=n
 tn:(zx TL).Nodup
 qn:(zx QL).Nodup
theorem znT{α β:Type}[DecidableEq α]{L:List (α×β)}{a:α}{v:β}(h:(a,v)∈L):(xB L a).length<L.length:=by
 unfold xB;refine Nat.lt_of_le_of_ne (List.length_filter_le _ _) (fun e=>?_);have:=List.length_filter_eq_length_iff.1 e (a,v) h;simp at this
theorem zmH.step{B:Int}{n:Nat}{T1:List (Jk×Tsk)}{Q1:List (Tok×Lse)}(h:zmH B n T1 Q1)(now:Int){t:Tok}{g:Lse}{x:Tsk}(f:zU Q1 t=E g)(i:zU T1 ⟨g.kd,g.s⟩=E x):zmH B n (qM T1 ⟨g.kd,g.s⟩ (x.failed now)) (xB Q1 t):=by
 have e:=zP f;have d:=zP i;have k:=znT e;refine⟨fun p c=>?_,fun p c=>?_,fun p c=>?_,?_,qY h.tn,qI h.qn⟩
 ·obtain⟨y,j⟩:=h.job p (xg.1 c).1;rw[jU h.tn];split
  ·exact⟨_,rfl⟩
  ·exact⟨y,j⟩
 ·rcases yB c with rfl|⟨c,_⟩
  ·obtain⟨a,b⟩:=h.tc _ d;dsimp only[Tsk.failed]at a b ⊢;omega
  ·obtain⟨a,b⟩:=h.tc _ c;omega
 ·rcases yB c with rfl|⟨c,_⟩
  ·exact h.wfk (_,x) d
  ·exact h.wfk _ c
 ·rw[vN,if_pos (show(⟨g.kd,g.s⟩:Jk)∈zx T1 from List.mem_map.2 ⟨(_,x),d,rfl⟩)];exact h.len
theorem zdu(h:(es.toList.map (·.born)).Nodup){a b:MapEntry}(m:a∈es.toList)(n:b∈es.toList)(e:a.born=b.born):a=b:=by
 obtain⟨i,k,f⟩:=List.getElem_of_mem m;obtain⟨j,l,d⟩:=List.getElem_of_mem n;have g:es.toList.Pairwise (fun a b=>a.born≠b.born):=List.pairwise_map.1 h;rcases Nat.lt_trichotomy i j with c|c|c
 ·have:=List.pairwise_iff_getElem.1 g i j k l c;rw[f,d]at this;exact absurd e this
 ·subst c;rw[f]at d;exact d
 ·have:=List.pairwise_iff_getElem.1 g j i l k c;rw[f,d]at this;exact absurd e.symm this
variable {p:Tok×Lse}
theorem zhS{clock:Nat}{L:List (Tok×Lse)}(h:ju xJ es clock L)(d:p∈L):∃x∈es.toList,x.key=yy p.1/\x.val=vO p.2:=by
 have c:(xJ.ke p.1,xJ.ve p.2)∈es.toList.map (fun e=>(e.key,e.val)):=h.kv▸List.mem_map.2 ⟨p,d,rfl⟩;obtain⟨x,f,e⟩:=List.mem_map.1 c;injection e with a b;exact⟨x,f,a,b⟩
theorem znS{a b:Lse}(h:vO a=vO b):a.til=b.til:=by
 unfold vO at h;injection h with h;simp at h;exact h.2.2.2.2.2
theorem zfD{b:Nat}(h:zN w b c tv ep num tb qb TL QL)(now:Int)(ag:0<=now/\now<=100000)(hI:zmH 1000000 100000 TL QL):
  Calls prog 59 #[(O b),I now] w fun e w'=>e=.returned (.tuple #[])/\∃TL' QL',zN w' b c tv ep num tb qb TL' QL'/\zj (fun k=>k=tb\/k=qb) w w'/\zcC now TL QL TL' QL'/\∀p∈QL',now<p.2.til:=by
 obtain⟨K,clock,a1,ai⟩:=h.leases;have ax:=h.lt;have ao:=h.cell10;have M:=run_range_map (P:=prog) w 168 _ _ qb K clock underlying168 a1;have HH:=ze h;have an:=ze ai;have T:=ze a1;clear h ai;go_in;go_wp2_with fail;go_loopw [4,5] (fun _ _ wr=>∃(seen:Array Nat) (c0:Nat) (es:Array MapEntry) (T1:List (Jk×Tsk)) (Q1:List (Tok×Lse)),wr.1[w.1.size]?=E (.mapIter (E qb) clock seen c0)/\clock<=c0/\wr.1[qb]?=E (.map es clock)/\ju xJ es clock Q1/\(∀e∈es.toList,e∈K.toList)/\(∀e∈es.toList,e.born∈seen.toList->∀g,e.val=vO g->now<g.til)/\zN wr b c tv ep num tb qb T1 Q1/\zj (fun k=>k=tb\/k=qb) w wr/\zcC now TL QL T1 Q1/\zmH 1000000 100000 T1 Q1)
  (fun _ _ wr=>Zc K w.1.size wr)
 case atStart=>
  have W:B_ w (w.alloc (.mapIter (E qb) clock #[] clock)):=(Q _ _).alloc (J _) _;exact⟨#[],clock,K,TL,QL,zo _ _,J _,(W.block _ (zd (ud T))).trans (ud T),ud an,fun _ h=>h,by simp,(ud HH).later W,zj.of_below W,.nil,hI⟩
 case round=>
  obtain⟨seen,c0,es,T1,Q1,L,ar,a2,d,n,l,hB,hK,H,f⟩:=hrel;have ay:=zd L;clear M ao a1;rcases run_next_at (P:=prog) wr 0 w.1.size qb clock c0 seen es clock L a2 d.born ar with⟨hz,v⟩|⟨e,Y,w1,N,v⟩
  ·have HP:=ze (And.intro d (And.intro l (And.intro hB (And.intro hK (And.intro H hz)))));clear hz d l hB hK H f hI n;go_wp2_with fail;go_end0;obtain⟨d,l,hB,hK,H,hz⟩:=ud HP;refine⟨rfl,T1,Q1,hB,hK,H,fun p hp=>?_⟩;obtain⟨x,R,ek,ev⟩:∃x∈es.toList,x.key=yy p.1/\x.val=vO p.2:=zhS d hp;refine l x R ?_ p.2 ev;by_cases o:x.born∈seen.toList
   ·exact o
   ·have:x∈(leftOf es seen).toList:=xH.2 ⟨R,o⟩;rw[Array.eq_empty_of_size_eq_zero hz]at this;simp at this
  ·have a4:=ze Y;obtain⟨j,av⟩:=xH.1 Y;have aj:w1.1[w.1.size]?=E (.mapIter (E qb) clock seen c0):=(by rcases N with rfl|rfl<;>exact L);have ah:w1.1[qb]?=E (.map es clock):=(by rcases N with rfl|rfl<;>exact a2);have af:qb≠w.1.size:=(by have:=zd T;omega);obtain⟨X,hX⟩:∃X,setBlock w1 w.1.size (.mapIter (E qb) clock (seen.push e.born) clock)=X:=⟨_,rfl⟩;have q:X.1[w.1.size]?=E (.mapIter (E qb) clock (seen.push e.born) clock):=(by rw[<-hX];exact xL (zd aj) _);have m:X.1[qb]?=E (.map es clock):=(by rw[<-hX,xr af];exact ah);have a0:zj (fun k=>k=w.1.size) wr X:=by
    rw[<-hX];rcases N with rfl|rfl
    ·exact xY _
    ·exact(zj.refl (fun k=>k=w.1.size) wr).drew.trans (xY _) (fun _ _ h=>h)
   have u:=hB.kept a0 (fun k hk e=>by have:=HH.foot_lt k hk;omega);have z:zj (fun k=>k=tb\/k=qb) w X:=hK.trans a0 (fun i hi e=>by omega);rw[hX]at v;have ad:=run_entry_at (P:=prog) X w.1.size qb clock seen es clock e q m j d.once;obtain⟨r,hk,hv⟩:=Xc yu d j;obtain⟨⟨t,y⟩,am⟩:∃y,kH xJ Q1 e=y:=⟨_,rfl⟩;rw[am]at r hk hv;have a6:=ze (And.intro r (And.intro hk hv));have C:e.key=yy t:=hk;have G:e.val=vO y:=hv;unfold yy at C;unfold vO at G;rw[C,G]at v ad;have a9:=zd q;have az:=u.lt;have HP:=ze (And.intro d (And.intro l (And.intro u (And.intro z (And.intro H (And.intro f (And.intro n (And.intro L (And.intro q (And.intro m j))))))))));have Z:zU Q1 t=E y:=xF d.nodup r;have a5:=ze Z;obtain⟨x,R⟩:=f.job _ r;have a7:=ze R;have a3:=f.tc _ (zP R);dsimp only at R a3;have HF:∀V,B_ X V->Hid (Calls prog 56 #[(O b),.agg #[I t.ep,I t.num],I now] V fun e w'=>e=.returned (.tuple #[])/\zN w' b c tv ep num tb qb (qM T1 ⟨y.kd,y.s⟩ (x.failed now)) (xB Q1 t)/\zj (fun k=>k=tb\/k=qb) V w'/\∃U,w'.1[qb]?=E (.map U clock)/\ju xJ U clock (xB Q1 t)/\∀e,e∈U.toList↔e∈es.toList/\e.key≠yy t):=fun V B=>
    zer (u.later B) t (d.wf _ r) Z (f.wfk _ (zP R)) R now ag ⟨a3.1,by omega⟩ f.len ((B.block _ (zd m)).trans m) d
   clear d l hB hK H f hI n L q m a0 u z aj ah hX N hk hv r am Y j av C G a2 Z R a3;have B:B_ X ((X.alloc (.cells #[I t.ep,I t.num] 49)).alloc (.cells (lZz y) 164)):=((Q _ _).alloc (J _) _).alloc ((Q _ _).alloc (J _) _).size _;have HV:=ze B;clear B;by_cases al:y.til<=now
   ·go_wp2_with(first|(go_at_call 56;refine(HF _ HV).mono ?_;rintro e3 W3 ⟨rfl,h3⟩;have H3:=ze h3;clear h3));obtain⟨d,l,u,z,H,f,n,L,q,m,j⟩:=ud HP;obtain⟨aq,a8,ap,aw,au,ak⟩:=ud H3;obtain⟨r,ac,ae⟩:=ud a6;have B:=ud HV;have F:=a8.heap ((B.block _ a9).trans q) (fun e=>by
     rcases e with e|e
     ·have:=HH.foot_lt tb (.inr (.inl rfl));omega
     ·exact af e.symm)
    refine⟨⟨_,_,ap,_,_,F,J _,aw,au,fun a ha=>n a ((ak a).1 ha).1,fun a ha o g hg=>?_,aq,(kC z B).trans a8 (fun _ _ h=>h),.step H a5 al a7,f.step now a5 a7⟩,?_⟩
    ·obtain⟨aa,ab⟩:=(ak a).1 ha;rw[Array.toList_push,List.mem_append]at o;rcases o with o|o
     ·exact l a aa o g hg
     ·rw[List.mem_singleton]at o;rw[zdu d.once aa j o]at ab;exact absurd ac ab
    ·rw[xw F,xw L];exact qT (xH.2 ⟨n e j,(xH.1 a4).2⟩)
   ·go_wp2_with fail;obtain⟨d,l,u,z,H,f,n,L,q,m,j⟩:=ud HP;obtain⟨r,ac,ae⟩:=ud a6;have B:=ud HV;have F:=(B.block _ a9).trans q;refine⟨⟨_,_,es,_,_,F,J _,(B.block _ (zd m)).trans m,d,n,fun a ha o g hg=>?_,u.later B,kC z B,H,f⟩,?_⟩
    ·rw[Array.toList_push,List.mem_append]at o;rcases o with o|o
     ·exact l a ha o g hg
     ·rw[List.mem_singleton]at o;rw[zdu d.once ha j o]at hg;have:=znS (hg.symm.trans ae);dsimp only at this;omega
    ·rw[xw F,xw L];exact qT (xH.2 ⟨n e j,(xH.1 a4).2⟩)
set_option maxRecDepth 20000
theorem jp(xs:Array Value)(i:Nat)(v:Value)(h:xs[i]?=E v)(w:D):(part 3 xs i).run prog w=.ok v w:=by simp[part,h]
theorem eqS1(d:Nat)(a b c a' b' e:Int)(w:D):(Op.equalIn (d+2) 146 (.agg #[I a,I b,I c]) (.agg #[I a',I b',I e])).run prog w=.ok (a==a'&&b==b'&&c==e) w:=by
 have i:∃f g h,(prog.fieldsOf 146).toList=[f,g,h]/\f.name≠ "_" /\g.name≠ "_" /\h.name≠ "_" /\f.type=3/\g.type=3/\h.type=3/\f.offset=0/\g.offset=1/\h.offset=2:=by
  refine⟨_,_,_,rfl,?_⟩
  decide
 obtain⟨f,g,h,i,j,k,l,p,t2,t3,m,n,o⟩:=i;rw[run_equalIn_struct w (d+1) 146 _ _ (by kernel_rfl) (by kernel_rfl),i];simp only[Op.eqFields,j,k,l,p,t2,t3,m,n,o,ne_eq,not_false_eq_true,if_true,Sem.run_bind,Sem.run_ite,Sem.run_pure,
  jp #[I a,I b,I c] 0 (I a) rfl,jp #[I a,I b,I c] 1 (I b) rfl,jp #[I a,I b,I c] 2 (I c) rfl,
  jp #[I a',I b',I e] 0 (I a') rfl,jp #[I a',I b',I e] 1 (I b') rfl,jp #[I a',I b',I e] 2 (I e) rfl,
  Result.andThen_ok,run_equalIn_int _ _ _ _ _ _ _ underlying3]
 cases a==a'<;>cases b==b'<;>cases c==e<;>rfl
theorem eqJ1(k a b c f a' b' g:Int)(w:D):(Op.equal 162 (.agg #[I k,I a,I b,I c]) (.agg #[I f,I a',I b',I g])).run prog w=.ok (k==f&&(a==a'&&b==b'&&c==g)) w:=by
 have h:∃d e,(prog.fieldsOf 162).toList=[d,e]/\d.name≠ "_" /\e.name≠ "_" /\d.type=3/\e.type=146/\d.offset=0/\e.offset=1:=by
  refine⟨_,_,rfl,?_⟩
  decide
 obtain⟨d,e,h,j,l,o,t2,m,n⟩:=h;have i:∀(k a b c:Int) (w:D),(part 146 #[I k,I a,I b,I c] 1).run prog w=.ok (.agg #[I a,I b,I c]) w:=fun k a b c w=>by kernel_rfl
 show(Op.equalIn (9999+1) 162 _ _).run prog w=_;rw[run_equalIn_struct w 9999 162 _ _ (by kernel_rfl) (by kernel_rfl),h];simp only[Op.eqFields,j,l,o,t2,m,n,ne_eq,not_false_eq_true,if_true,Sem.run_bind,Sem.run_ite,Sem.run_pure,
  jp #[I k,I a,I b,I c] 0 (I k) rfl,jp #[I f,I a',I b',I g] 0 (I f) rfl,i,
  Result.andThen_ok,show(9999:Nat)=9998+1 from rfl,run_equalIn_int _ _ _ _ _ _ _ underlying3]
 rw[show(9998+1:Nat)=9997+2 from rfl,eqS1];cases k==f<;>cases(a==a'&&b==b'&&c==g)<;>rfl
theorem zhT(a b:Jk)(w:D):(binOp .eql 162 (.agg #[I a.kd,I a.s.t,I a.s.se,I a.s.we]) (.agg #[I b.kd,I b.s.t,I b.s.se,I b.s.we])).run prog w=.ok (.bool (decide (a=b))) w:=by
 have c:binOp .eql 162 (.agg #[I a.kd,I a.s.t,I a.s.se,I a.s.we]) (.agg #[I b.kd,I b.s.t,I b.s.se,I b.s.we])=(Op.equal 162 (.agg #[I a.kd,I a.s.t,I a.s.se,I a.s.we]) (.agg #[I b.kd,I b.s.t,I b.s.se,I b.s.we])>>=fun r=>pure (Value.bool r)):=by unfold binOp;rfl
 have d:(a.kd==b.kd&&(a.s.t==b.s.t&&a.s.se==b.s.se&&a.s.we==b.s.we))=decide (a=b):=by
  obtain⟨k,⟨t,s,w⟩⟩:=a;obtain⟨e,⟨g,f,w'⟩⟩:=b;rw[Bool.eq_iff_iff,decide_eq_true_iff];simp[and_assoc]
 rw[c,Sem.run_bind,eqJ1,d];rfl
def Tsk.kd(x:Tsk):Int:=if x.rl then 1 else 2
def Tsk.key(x:Tsk):Jk:=⟨x.kd,x.s⟩
theorem keyOf_any(x:Tsk)(w:D):Calls prog 102 #[(jZz x)] w (Rz w (.agg #[I x.kd,I x.s.t,I x.s.se,I x.s.we])):=by
 obtain⟨rl,s,a,b,c⟩:=x;cases rl with
 |true=>exact keyOf_Roll s w
 |false=>exact keyOf_Reclaim s w
theorem zhH(x:Lse)(a:Nat)(k:Int)(w:D)(b:w.cell? (U a 0)=E (I k))(c:a<w.1.size):Calls prog 95 #[.agg (lZz x),(O a)] w (Rz w (.bool (x.slot==k))):=by
 go_in;go_wp2_with fail;go_ret;exact⟨rfl,(Q _ _).alloc (J _) _⟩
theorem bsen:∀args w,(callFunc 95 args).run prog w=.ok (.enter 95 args) w:=enters_of func95 (by kernel_rfl) rfl
theorem zfq{α:Type}(p:α->Bool)(xs:List α):(decide (0<((xs.filter p).length:Int)))=xs.any p:=by
 rw[Bool.eq_iff_iff,decide_eq_true_iff,List.any_eq_true];constructor
 ·intro h;have c:0<(xs.filter p).length:=by omega
  obtain⟨a,b⟩:=List.exists_mem_of_length_pos c;exact⟨a,(List.mem_filter.1 b).1,(List.mem_filter.1 b).2⟩
 ·rintro⟨a,b,d⟩;have:=List.length_pos_of_mem (List.mem_filter.2 ⟨b,d⟩);omega
theorem zkR{α:Type}(p:α->Bool){xs d:List α}(h:xs.Perm d):xs.any p=d.any p:=by
 rw[Bool.eq_iff_iff,List.any_eq_true,List.any_eq_true];constructor
 ·rintro⟨a,b,c⟩;exact⟨a,h.mem_iff.1 b,c⟩
 ·rintro⟨a,b,c⟩;exact⟨a,h.mem_iff.2 b,c⟩
theorem zhz{α β:Type}(p:β->Bool){ps L:List (α×β)}(h:ps.Perm L):(decide (0<(((ps.map (fun q:α×β=>q.2)).filter p).length:Int)))=L.any (fun q=>p q.2):=by
 rw[zfq,<-zkR (fun q:α×β=>p q.2) h];induction ps generalizing L with
 |nil=>rfl
 |cons a r b=>simp only[List.map_cons,List.any_cons];rw[b (L:=r) (List.Perm.refl _)]
theorem zkU{b:Nat}(h:zN w b c tv ep num tb qb TL QL)(slot:Int)(v:QL.length<=100000):
  Calls prog 47 #[(O b),I slot] w (Rz w (.bool (QL.any (fun p=>p.2.slot==slot)))):=by
 have l:=h.lt;have i:=h.cell10;have j:∀o,B_ w (w.alloc o):=fun o=>(Q _ _).alloc (J _) _;obtain⟨g,q,a,r⟩:=box2 w (.cells #[I slot] 3) (.cells #[.map (E qb)] 168);have u:=ze (zii qb (w.alloc (.cells #[I slot] 3)));have t:=ze (zhO 156 #[(O (w.1.size+1))] zmM 95 #[] #[(O w.1.size)] bsen (fun x=>x.slot==slot) _
  (fun x W n=>zhH x w.1.size slot W (by rw[xd ((n.block _ (zd g)).trans g)];rfl) (S (zd g) n.size))
  (zmQ (ex:=fun _=>False) (w.1.size+1) qb QL _ (fun e=>e) (by rw[r];omega) (by rw[xd q];rfl) (h.leases.later a)) (fun xs ⟨ps,f,e⟩=>by rw[e,List.length_map,f.length_eq];omega))
 have d:=ze a;have m:=((j (.cells #[I slot] 3)).cell (p:=(U b 10)) l).trans i;clear h v g q a r;go_in;go_wp2_with fail;refine u.mono ?_;rintro e w1 ⟨rfl,rfl⟩;go_wp2_with fail;refine t.mono ?_;rintro e w1 ⟨xs,⟨ps,f,rfl⟩,rfl,k⟩;have s:=ze (zhz (fun x:Lse=>x.slot==slot) f);clear f;go_wp2_with fail;go_ret;exact⟨by rw[<-ud s];rfl,d.trans (k.mono d.size)⟩
theorem zdn(g:Lse)(e:Nat)(x:Tsk)(w:D)(l:w.1[e]?=E (.cells (tZz x) 177 (0,0))):Calls prog 159 #[.agg (lZz g),(O e)] w (Rz w (.bool (decide ((⟨g.kd,g.s⟩:Jk)=x.key)))):=by
 have F:=zd l;obtain⟨y,-⟩:=zc l;have B:=fun W=>ze (keyOf_any x W);have a:B_ w (w.alloc (.cells (lZz g) 164)):=(Q _ _).alloc (J _) _;have r:=zo w (.cells (lZz g) 164);have t:=zE w (.cells (lZz g) 164);have L:=(a.cell (p:=(U e 0)) F).trans y;obtain⟨G,H,I,K,-⟩:=zc r;have v:=fun W=>zhT ⟨g.kd,g.s⟩ x.key W;obtain⟨d,m⟩:∃d,decide ((⟨g.kd,g.s⟩:Jk)=x.key)=d:=⟨_,rfl⟩;rw[m];simp only[m]at v;clear m;dsimp only[Tsk.key]at v;have f:=ze a;have z:=ze t;clear l r t a y;go_in;go_wp2_with fail;have M:w.1.size<w.1.size+1:=by omega
 have P:e<w.1.size+1:=by omega
 generalize(w.alloc (.cells (lZz g) 164))=X at*;generalize C:w.1.size+1=N at*;have q:Nonempty (zm N X):=zm.some _ _;have n:=fun(u:zm N X) b o h=>u.cell b o h;have c:N<=X.1.size:=by rw[ud z];exact J _
 have j:=ze c;have i:Hid (w.1.size<=N):=by show w.1.size<=N;omega
 clear c C;refine zh N (by kernel_rfl) (by kernel_rfl) ?_;repeat(go_big_quiet_step (first
  |(go_at_call 102;exact Calls.later j (B _))))
 refine wpQuiet_nil ?_;rintro⟨w1,k⟩;clear n q;dsimp only;go_wp2_with fail;go_ret;exact⟨rfl,f.trans (k.mono i)⟩
theorem lsen:∀args w,(callFunc 159 args).run prog w=.ok (.enter 159 args) w:=enters_of func159 (by kernel_rfl) rfl
def vg(QL:List (Tok×Lse))(k:Jk):Bool:=QL.any (fun p=>decide ((⟨p.2.kd,p.2.s⟩:Jk)=k))
theorem zfS{b:Nat}(h:zN w b c tv ep num tb qb TL QL)(x:Tsk)(z:QL.length<=100000):
  Calls prog 99 #[(O b),.agg (tZz x)] w (Rz w (.bool (vg QL x.key))):=by
 have l:=h.lt;have i:=h.cell10;have j:∀o,B_ w (w.alloc o):=fun o=>(Q _ _).alloc (J _) _;obtain⟨m,q,a,r⟩:=box2 w (.cells (tZz x) 177) (.cells #[.map (E qb)] 168);have v:=ze (zii qb (w.alloc (.cells (tZz x) 177)));have u:=ze (zhO 156 #[(O (w.1.size+1))] zmM 159 #[] #[(O w.1.size)] lsen (fun g=>decide ((⟨g.kd,g.s⟩:Jk)=x.key)) _
  (fun g W y=>zdn g w.1.size x W ((y.block _ (zd m)).trans m))
  (zmQ (ex:=fun _=>False) (w.1.size+1) qb QL _ (fun e=>e) (by rw[r];omega) (by rw[xd q];rfl) (h.leases.later a)) (fun xs ⟨ps,f,e⟩=>by rw[e,List.length_map,f.length_eq];omega))
 have d:=ze a;have n:=((j (.cells (tZz x) 177)).cell (p:=(U b 10)) l).trans i;clear h z m q a r;go_in;go_wp2_with fail;refine v.mono ?_;rintro e w1 ⟨rfl,rfl⟩;go_wp2_with fail;refine u.mono ?_;rintro e w1 ⟨xs,⟨ps,f,rfl⟩,rfl,k⟩;have t:=ze (zhz (fun g:Lse=>decide ((⟨g.kd,g.s⟩:Jk)=x.key)) f);clear f;go_wp2_with fail;go_ret;refine⟨?_,d.trans (k.mono d.size)⟩;unfold vg;rw[<-ud t];rfl
structure MS where
 now:Int
 L:LV
 Gl:List (Sg×Unit)
 num:Int
 TL:List (Jk×Tsk)
 QL:List (Tok×Lse)
def Lse.job(g:Lse):Jk:=⟨g.kd,g.s⟩
def Cf.clo(c:Cf)(now:Int)(s:Sg):Prop:=(s.we+1)*c.wh s.t<=now-c.la
def Cf.b(c:Cf):Nat:=((List.range c.n).find? (fun j:Nat=>decide (c.F j= -1))).getD 0
theorem Cf.b_of(h:∃j:Nat,j<c.n/\c.F j= -1):c.b<c.n/\c.F c.b= -1:=by
 obtain⟨j,f,e⟩:=h;unfold Cf.b;cases a:(List.range c.n).find? (fun j:Nat=>decide (c.F j= -1))with
 |none=>exact absurd (decide_eq_true e) (List.find?_eq_none.1 a j (List.mem_range.2 f))
 |some i=>
  have d:=List.find?_some a
  exact⟨List.mem_range.1 (List.mem_of_find?_eq_some a),of_decide_eq_true d⟩
structure Cf.fits(c:Cf):Prop where
 bn:c.b<c.n
 from0:c.F c.b= -1
 div0:∃q:Int,1<=q/\c.W c.b=c.wi*q
 down:∀i:Nat,i<c.n-> -1<=c.F i/\c.F i<c.n
 quot:∀i:Nat,i<c.n->∃q:Int,1<=q/\c.W i=c.wh (c.F i)*q
 dn:∀i:Nat,i<c.n->Go.Proofs.YtndhpgciopcncaaGreatDoor.down c.F c.n (i:Int)=true
theorem Cf.clo_mono{a b:Int}(h:a<=b)(d:c.clo a s):c.clo b s:=by unfold Cf.clo at*;omega
structure zhp(c:Cf)(now:Int)(L:LV)(p:Jk×Tsk):Prop where
 key:p.1=p.2.key
 mem:p.2.s∈zw L
 clo:c.clo now p.2.s
 roll:p.2.rl=true->(stL L p.2.s).st=2
 recl:p.2.rl=false->(stL L p.2.s).st≠2
 si:0<=p.2.si/\p.2.si<=now
 tc:0<=p.2.tc/\p.2.tc<=p.2.rest/\p.2.rest<=now+32
structure zne(c:Cf)(ep now num:Int)(TL:List (Jk×Tsk))(q:Tok×Lse):Prop where
 job:∃x,zU TL q.2.job=E x/\x.rest<=now
 ep:q.1.ep=ep
 num:1<=q.1.num/\q.1.num<=num
 til:now<q.2.til/\q.2.til<=now+c.le
structure kL(c:Cf)(now:Int)(L:LV)(Gl:List (Sg×Unit)):Prop where
 inr:∀p∈L,inR c p.1
 nl:(zw L).Nodup
 raw:∀p∈L,p.1.t= -1->p.2.st=1/\1<=p.2.cl.cnt/\ -(p.2.cl.cnt*2147483648)<=p.2.cl.sum/\p.2.cl.sum<=p.2.cl.cnt*2147483648
 tier:∀p∈L,0<=p.1.t->p.2.st=2\/p.2.st=3
 disj:∀p∈L,p.1∉zx Gl
 ng:(zx Gl).Nodup
 pubc:∀p∈L,p.2.st=3->c.clo now p.1
 goc:∀k∈zx Gl,c.clo now k
 above:∀p∈L,p.1.t= -1->(⟨(c.b:Int),p.1.se,p.1.we*c.wi/c.W c.b⟩:Sg)∈zw L\/(⟨(c.b:Int),p.1.se,p.1.we*c.wi/c.W c.b⟩:Sg)∈zx Gl
 used:xh L<=c.qu
structure MOk(c:Cf)(ep:Int)(m:MS):Prop where
 now:0<=m.now/\m.now<=100000
 seg:kL c m.now m.L m.Gl
 tg:∀p∈m.TL,zhp c m.now m.L p
 nt:(zx m.TL).Nodup
 leas:∀q∈m.QL,zne c ep m.now m.num m.TL q
 nq:(zx m.QL).Nodup
 jobs:(m.QL.map (fun q=>q.2.job)).Nodup
 num:0<=m.num
section
variable {c:Cf} {now:Int} {L:LV} {Gl:List (Sg×Unit)}
theorem kL.use{now:Int}(h:kL c now L Gl):∀p∈L,1<=kg p.2:=fun p a=>by
 have e:=h.inr p a;by_cases f:p.1.t= -1
 ·obtain⟨b,d,_⟩:=h.raw p a f;unfold kg;rw[if_pos b];exact d
 ·have:=h.tier p a (by have:=e.2.1;omega);unfold kg;rw[if_neg (by omega)];omega
theorem zkd:∀(l:List Int),(∀x∈l,1<=x)->(l.length:Int)<=qr l
 |[],_=>by simp[qr]
 |a::l,h=>by
  have c:=h a (by simp);have d:=zkd l (fun x b=>h x (by simp[b]));simp only[qr,List.length_cons];omega
theorem zfg:∀(l:List Int) (a:Int),(∀x∈l,0<=x)->a∈l->a<=qr l
 |[],_,_,h=>by simp at h
 |b::l,a,h,d=>by
  have e:=h b (by simp);have i:0<=qr l:=by
   clear d e;induction l with
   |nil=>simp[qr]
   |cons x l g=>
    have:=h x (by simp);have:=g (fun y c=>h y (by simp at c ⊢;rcases c with c|c<;>simp[c]));simp only[qr];omega
  rcases List.mem_cons.1 d with rfl|d
  ·simp only[qr];omega
  ·have:=zfg l a (fun x f=>h x (by simp[f])) d;simp only[qr];omega
theorem kL.len(h:kL c now L Gl):(L.length:Int)<=xh L:=by
 have:=zkd (L.map (fun p=>kg p.2)) (fun x b=>by obtain⟨p,a,rfl⟩:=List.mem_map.1 b;exact h.use p a);simpa[xh]using this
theorem kL.len400(h:kL c now L Gl)(a:c.ok):L.length<=400:=by
 have b:=h.len;have d:=h.used;have e:=a.qu;omega
theorem kL.cnt(h:kL c now L Gl)(d:c.ok):∀p∈L,p.1.t= -1->p.2.cl.cnt<=400:=fun p a f=>by
 obtain⟨b,i,_⟩:=h.raw p a f;have j:kg p.2<=xh L:=zfg _ _ (fun x g=>by obtain⟨q,e,rfl⟩:=List.mem_map.1 g;have:=h.use q e;omega) (List.mem_map.2 ⟨p,a,rfl⟩);have k:kg p.2=p.2.cl.cnt:=by unfold kg;rw[if_pos b]
 have l:=h.used;have m:=d.qu;omega
theorem kL.u0(h:kL c now L Gl)(a:c.ok):0<=xh L/\xh L<=400:=by
 have b:=h.len;have d:=h.used;have e:=a.qu;omega
theorem kL.st(h:kL c now L Gl):∀p∈L,p.2.st≠0:=fun p a=>by
 have b:=h.inr p a;by_cases d:p.1.t= -1
 ·obtain⟨e,_⟩:=h.raw p a d;omega
 ·have:=h.tier p a (by have:=b.2.1;omega);omega
end
theorem Qk{α:Type}[DecidableEq α]:∀(l m:List α),l.Nodup->(∀x∈l,x∈m)->l.length<=m.length
 |[],_,_,_=>by simp
 |a::l,m,hn,c=>by
  have b:=c a (by simp);obtain⟨f,g⟩:=List.nodup_cons.1 hn;have:=Qk l (m.erase a) g (fun x d=>(List.mem_erase_of_ne (fun e=>f (by rw[<-e];exact d))).2 (c x (by simp[d])));rw[List.length_erase_of_mem b]at this;have h:0<m.length:=List.length_pos_of_mem b;simp only[List.length_cons];omega
section
variable {c:Cf} {ep:Int} {m:MS}
theorem MOk.tlen(h:MOk c ep m):m.TL.length<=2*m.L.length:=by
 have d:=Qk (zx m.TL) ((zw m.L).map (fun s=>(⟨1,s⟩:Jk))++(zw m.L).map (fun s=>(⟨2,s⟩:Jk))) h.nt (fun k e=>by
  obtain⟨p,f,rfl⟩:=List.mem_map.1 (show k∈m.TL.map (·.1)from e);have a:=h.tg p f;rw[a.key];cases b:p.2.rl with
  |true=>exact List.mem_append_left _ (List.mem_map.2 ⟨p.2.s,a.mem,by simp[Tsk.key,Tsk.kd,b]⟩)
  |false=>exact List.mem_append_right _ (List.mem_map.2 ⟨p.2.s,a.mem,by simp[Tsk.key,Tsk.kd,b]⟩))
 simp[zx,zw]at d;omega
theorem MOk.qlen(h:MOk c ep m):m.QL.length<=m.TL.length:=by
 have a:=Qk (m.QL.map (fun q=>q.2.job)) (zx m.TL) h.jobs (fun k b=>by
  obtain⟨q,d,rfl⟩:=List.mem_map.1 b;obtain⟨x,e,_⟩:=(h.leas q d).job;exact List.mem_map.2 ⟨_,zP e,rfl⟩)
 simpa[zx]using a
theorem MOk.t800(h:MOk c ep m)(a:c.ok):m.TL.length<=800:=by have:=h.tlen;have:=h.seg.len400 a;omega
theorem MOk.q800(h:MOk c ep m)(a:c.ok):m.QL.length<=800:=by have:=h.t800 a;have:=h.qlen;omega
theorem MOk.mem_inR(h:MOk c ep m)(b:s∈zw m.L):inR c s:=by
 obtain⟨p,a,rfl⟩:=List.mem_map.1 (show s∈m.L.map (·.1)from b);exact h.seg.inr p a
theorem MOk.wfk(h:MOk c ep m):∀p∈m.TL,p.1.wf:=fun p b=>by
 have a:=h.tg p b;rw[a.key];refine⟨?_,(h.mem_inR a.mem).1⟩;unfold Tsk.key Tsk.kd xX;dsimp only;split<;>omega
theorem MOk.binv(h:MOk c ep m)(b:c.ok):zmH 1000000 100000 m.TL m.QL:=by
 have e:=h.q800 b;have hn:=h.now;refine⟨fun p a=>?_,fun p a=>?_,h.wfk,by have:=h.t800 b;omega,h.nt,h.nq⟩
 ·obtain⟨x,d,_⟩:=(h.leas p a).job;exact⟨x,d⟩
 ·have:=(h.tg p a).tc;omega
end
theorem zid(hn:(zw L).Nodup)(s k:Sg)(v:SV):vf (km L s v) k=if k=s then E v else vf L k:=jU (L:=L) hn s v k
theorem zjV(hn:(zw L).Nodup)(s k:Sg)(v:SV):stL (km L s v) k=if k=s then v else stL L k:=by
 unfold stL;rw[zid hn];split<;>rfl
theorem zpN(hn:(zw L).Nodup){p:Sg×SV}(a:p∈L):stL L p.1=p.2:=by
 unfold stL;rw[show vf L p.1=E p.2 from xF (L:=L) hn a];rfl
theorem xl(b:s∈zw L):(s,stL L s)∈L:=by
 obtain⟨v,hv,a⟩:=JT b;unfold stL;rw[hv];exact a
variable {T1:List (Jk×Tsk)}
theorem zhV(r:now<=n')(W:∀p∈TL,zhp c now L p)(nt:(zx TL).Nodup)(V:∀q∈QL,zne c ep now num TL q)(nq:(zx QL).Nodup)(jobs:(QL.map (fun q=>q.2.job)).Nodup){Q1:List (Tok×Lse)}(h:zcC n' TL QL T1 Q1):
  (∀p∈T1,zhp c n' L p)/\(zx T1).Nodup/\(zx Q1).Nodup/\(Q1.map (fun q=>q.2.job)).Nodup/\(∀q∈Q1,q∈QL)/\(∀q∈QL,n'<q.2.til->q∈Q1)/\(∀q∈Q1,∃x,zU T1 q.2.job=E x/\x.rest<=now)/\(∀k,k∈zx T1↔k∈zx TL):=by
 induction h with
 |nil=>
  refine⟨fun p u=>?_,nt,nq,jobs,fun q h=>h,fun q h _=>h,fun q h=>(V q h).job,fun k=>Iff.rfl⟩;have:=W p u;exact⟨this.key,this.mem,Cf.clo_mono r this.clo,this.roll,this.recl,⟨this.si.1,by have:=this.si;omega⟩,by have:=this.tc;omega⟩
 | @step T1 Q1 t g x _ K U O Y=>
  obtain⟨i1,i2,i3,i4,i5,P,R,T⟩:=Y;have m:=zP K;have w:=zP O;have o:∀q∈xB Q1 t,q.2.job≠g.job:=fun q d e=>by
   obtain⟨F,G⟩:=xg.1 d;have v:Q1.Pairwise (fun a b=>a.2.job≠b.2.job):=List.pairwise_map.1 i4;obtain⟨i,M,C⟩:=List.getElem_of_mem F;obtain⟨j,N,z⟩:=List.getElem_of_mem m;rcases Nat.lt_trichotomy i j with n|n|n
   ·have:=List.pairwise_iff_getElem.1 v i j M N n;rw[C,z]at this;exact this e
   ·subst n;rw[C]at z;exact G (by rw[z])
   ·have:=List.pairwise_iff_getElem.1 v j i N M n;rw[C,z]at this;exact this e.symm
  have X:x.rest<=now:=by
   obtain⟨y,I,H⟩:=R _ m;have:y=x:=(by have:=I.symm.trans O;injection this);rw[<-this];exact H
  refine⟨fun p u=>?_,qY i2,qI i3,?_,fun q d=>i5 q (xg.1 d).1,fun q d l=>?_,fun q d=>?_,fun k=>?_⟩
  ·rcases yB u with rfl|⟨u,_⟩
   ·have f:=i1 _ w;have Z:=XE (x.tc+1).toNat;exact⟨f.key,f.mem,f.clo,f.roll,f.recl,f.si,by have:=f.tc;simp only[Tsk.failed]at*;omega⟩
   ·exact i1 p u
  ·unfold xB;exact i4.sublist (List.Sublist.map _ (List.filter_sublist))
  ·refine xg.2 ⟨P q d l,fun e=>?_⟩;have B:=xF i3 (P q d l);rw[e,K]at B;injection B with B;rw[<-B]at l;omega
  ·obtain⟨y,I,H⟩:=R q (xg.1 d).1;refine⟨y,?_,H⟩;rw[jU i2,if_neg (show¬q.2.job=⟨g.kd,g.s⟩from o q d)];exact I
  ·rw[xz,T k];constructor
   ·rintro(h|rfl)
    ·exact h
    ·exact(T _).1 (List.mem_map.2 ⟨_,w,rfl⟩)
   ·exact .inl
variable {m:MS}
theorem MOk.exps(h:MOk c ep m)(hn:m.now<=n'/\n'<=100000){QL':List (Tok×Lse)}(f:zcC n' m.TL m.QL TL' QL')(j:∀p∈QL',n'<p.2.til):
  MOk c ep {m with now:=n',TL:=TL',QL:=QL'}:=by
 obtain⟨i1,i2,i3,i4,i5,r,n,s⟩:=zhV hn.1 h.tg h.nt h.leas h.nq h.jobs f;have a:=h.seg;refine⟨⟨by have:=h.now;show 0<=n';omega,hn.2⟩,⟨a.inr,a.nl,a.raw,a.tier,a.disj,a.ng,fun p i e=>Cf.clo_mono hn.1 (a.pubc p i e),fun k g=>Cf.clo_mono hn.1 (a.goc k g),a.above,a.used⟩,i1,i2,fun q b=>?_,i3,i4,h.num⟩;have d:=h.leas q (i5 q b);obtain⟨x,l,o⟩:=n q b;exact⟨⟨x,l,by show x.rest<=n';omega⟩,d.ep,d.num,j q b,by have:=d.til;show q.2.til<=n'+c.le;omega⟩
def yr(now:Int)(TL:List (Jk×Tsk))(s:Sg):List (Jk×Tsk):=match zU TL ⟨1,s⟩with|some _=>TL|none=>qM TL ⟨1,s⟩ ⟨true,s,now,0,0⟩
def yV(now:Int)(TL:List (Jk×Tsk))(s:Sg):List (Jk×Tsk):=match zU TL ⟨2,s⟩with|some _=>TL|none=>qM TL ⟨2,s⟩ ⟨false,s,now,0,0⟩
section
variable {c:Cf} {now:Int} {L:LV}
structure Zl(c:Cf)(now:Int)(L:LV)(TL T1:List (Jk×Tsk)):Prop where
 ok:∀p∈T1,zhp c now L p
 nt:(zx T1).Nodup
 old:∀k x,zU TL k=E x->zU T1 k=E x
theorem zeO(h:Zl c now L TL T1)(hn:0<=now)(d:zU T1 k=none)(f:zhp c now L (k,x)):Zl c now L TL (qM T1 k x):=by
 refine⟨fun p a=>?_,qY h.nt,fun j y b=>?_⟩
 ·rcases yB a with rfl|⟨a,_⟩
  ·exact f
  ·exact h.ok p a
 ·have:=h.old j y b;rw[jU h.nt,if_neg (fun e=>by rw[e,d]at this;cases this)];exact this
theorem zlV(h:Zl c now L TL T1)(hn:0<=now)(b:s∈zw L)(d:c.clo now s)(f:(stL L s).st=2):Zl c now L TL (yr now T1 s)/\∀k,k∈zx (yr now T1 s)↔k∈zx T1\/k=⟨1,s⟩:=by
 unfold yr;cases a:zU T1 ⟨1,s⟩with
 |some x=>exact⟨h,fun k=>⟨.inl,fun e=>e.elim id (fun e=>by rw[e];exact List.mem_map.2 ⟨_,zP a,rfl⟩)⟩⟩
 |none=>exact⟨zeO h hn a ⟨rfl,b,d,fun _=>f,fun e=>by simp at e,⟨hn,Int.le_refl _⟩,by dsimp only;omega⟩,fun k=>xz⟩
theorem zlU(h:Zl c now L TL T1)(hn:0<=now)(b:s∈zw L)(d:c.clo now s)(f:(stL L s).st≠2):Zl c now L TL (yV now T1 s)/\∀k,k∈zx (yV now T1 s)↔k∈zx T1\/k=⟨2,s⟩:=by
 unfold yV;cases a:zU T1 ⟨2,s⟩with
 |some x=>exact⟨h,fun k=>⟨.inl,fun e=>e.elim id (fun e=>by rw[e];exact List.mem_map.2 ⟨_,zP a,rfl⟩)⟩⟩
 |none=>exact⟨zeO h hn a ⟨rfl,b,d,fun e=>by simp at e,fun _=>f,⟨hn,Int.le_refl _⟩,by dsimp only;omega⟩,fun k=>xz⟩
theorem zbW(hn:0<=now):∀(a:List Sg) {TL T1:List (Jk×Tsk)},Zl c now L TL T1->(∀s∈a,s∈zw L/\c.clo now s/\(stL L s).st=2)->Zl c now L TL (a.foldl (yr now) T1)/\∀k,k∈zx (a.foldl (yr now) T1)↔k∈zx T1\/∃s∈a,k=⟨1,s⟩
 |[],TL,T1,h,_=>⟨h,fun k=>by simp⟩
 |s::a,TL,T1,h,b=>by
  obtain⟨a1,a2,a3⟩:=b s (by simp);obtain⟨d,e⟩:=zlV h hn a1 a2 a3;obtain⟨f,g⟩:=zbW hn a d (fun x i=>b x (by simp[i]));refine⟨f,fun k=>?_⟩;show k∈zx (a.foldl (yr now) (yr now T1 s))↔_;rw[g k,e k];simp[or_assoc]
theorem zbU(hn:0<=now):∀(a:List Sg) {TL T1:List (Jk×Tsk)},Zl c now L TL T1->(∀s∈a,s∈zw L/\c.clo now s/\(stL L s).st≠2)->Zl c now L TL (a.foldl (yV now) T1)/\∀k,k∈zx (a.foldl (yV now) T1)↔k∈zx T1\/∃s∈a,k=⟨2,s⟩
 |[],TL,T1,h,_=>⟨h,fun k=>by simp⟩
 |s::a,TL,T1,h,b=>by
  obtain⟨a1,a2,a3⟩:=b s (by simp);obtain⟨d,e⟩:=zlU h hn a1 a2 a3;obtain⟨f,g⟩:=zbU hn a d (fun x i=>b x (by simp[i]));refine⟨f,fun k=>?_⟩;show k∈zx (a.foldl (yV now) (yV now T1 s))↔_;rw[g k,e k];simp[or_assoc]
end
theorem znr(m:c.ok)(n:c.fits){k:Sg}(o:k.t= -1)(h:c.clo now ⟨(c.b:Int),k.se,k.we*c.wi/c.W c.b⟩):c.clo now k:=by
 obtain⟨q,u,d⟩:=n.div0;have p:=m.wi1;have g:c.wh (c.b:Int)=c.W c.b:=by unfold Cf.wh xp;rw[if_neg (by omega)];simp
 have i:c.wh (-1)=c.wi:=by unfold Cf.wh xp;rw[if_pos rfl]
 unfold Cf.clo at*;rw[g]at h;rw[o,i];have f:0<c.W c.b:=by rw[d];exact Int.mul_pos (by omega) (by omega)
 have j:k.we*c.wi<(k.we*c.wi/c.W c.b+1)*c.W c.b:=Int.lt_ediv_add_one_mul_self _ f;generalize k.we*c.wi/c.W c.b=a at*;have l:k.we*c.wi<((a+1)*q)*c.wi:=by
  have e:(a+1)*c.W c.b=((a+1)*q)*c.wi:=by rw[d,Int.mul_comm c.wi q,<-Int.mul_assoc]
  rw[<-e];exact j
 have r:k.we<(a+1)*q:=Int.lt_of_mul_lt_mul_right l (by omega);have s:(k.we+1)*c.wi<=((a+1)*q)*c.wi:=Int.mul_le_mul_of_nonneg_right (by omega) (by omega);have e:(a+1)*c.W c.b=((a+1)*q)*c.wi:=by rw[d,Int.mul_comm c.wi q,<-Int.mul_assoc]
 rw[e]at h;omega
theorem zeP(j:c.ok)(m:c.fits){Gl:List (Sg×Unit)}(h:kL c now L Gl){k:Sg}(v:k∈zw L)(n:ja c L now k=true):c.clo now k/\(stL L k).st≠2:=by
 have f:=xl v;have e:=h.inr _ f;unfold ja at n;simp only[Bool.and_eq_true,Bool.not_eq_true',beq_eq_false_iff_ne,ne_eq,decide_eq_true_eq]at n;obtain⟨⟨p,F⟩,q⟩:=n;refine⟨?_,p⟩;by_cases g:k.t= -1
 ·have z:=j.n1;have u:(⟨(c.b:Int),k.se,k.we*c.wi/c.W c.b⟩:Sg)∈kP c k:=by
   have o:c.wh k.t=c.wi:=(by rw[g];unfold Cf.wh xp;rw[if_pos rfl]);unfold kP VL;rw[o,List.map_map];exact List.mem_map.2 ⟨c.b,List.mem_filter.2 ⟨by simpa using m.bn,by simp[m.from0,g]⟩,rfl⟩
  have l:c.clo now ⟨(c.b:Int),k.se,k.we*c.wi/c.W c.b⟩:=by
   rcases h.above _ f g with i|i
   ·have d:=xl i;rcases h.tier _ d (by show(0:Int)<=(c.b:Int);omega)with a|a
    ·exfalso;unfold Yd at q;have s:((jx c k).filter (fun x=>(stL L x.1).st==2)).length=0:=by
      have:=of_decide_eq_true (show decide ((((jx c k).filter (fun x=>(stL L x.1).st==2)).length:Int)=0)=true from by simpa using q)
      omega
     have w:=(Zt j e ⟨(c.b:Int),k.se,k.we*c.wi/c.W c.b⟩).2 u;obtain⟨y,B,r⟩:=List.mem_map.1 w;have:y∈(jx c k).filter (fun x=>(stL L x.1).st==2):=List.mem_filter.2 ⟨B,by rw[r];simpa using a⟩;rw[List.eq_nil_of_length_eq_zero s]at this;simp at this
    ·exact h.pubc _ d a
   ·exact h.goc _ i
  exact znr j m g l
 ·rcases h.tier _ f (by have C: -1<=k.t:=e.2.1;show 0<=k.t;omega)with a|a
  ·exact absurd a p
  ·exact h.pubc _ f a
theorem zeS{Bs:List (Sg×Unit)}{k:Sg}(a:jd c Bs L now k=true):c.clo now k/\(stL L k).st=2:=by
 unfold jd at a;simp only[Bool.and_eq_true,beq_iff_eq,decide_eq_true_eq]at a;exact⟨a.2,a.1.2⟩
structure qN(c:Cf)(m:MS)(TL':List (Jk×Tsk)):Prop where
 to:∃(Bs:List (Sg×Unit)) (ys1 ys2:List Sg),(∀x,x∈zx Bs↔∃k,k∈zw m.L/\(stL m.L k).st=2/\x∈kP c k)/\(∀s,s∈ys1↔s∈zw m.L/\jd c Bs m.L m.now s=true)/\(∀s,s∈ys2↔s∈zw m.L/\ja c m.L m.now s=true)/\TL'=ys2.foldl (yV m.now) (ys1.foldl (yr m.now) m.TL)
theorem MOk.post(p:c.ok)(r:c.fits)(h:MOk c ep m)(u:qN c m TL'):
  MOk c ep {m with TL:=TL'}/\(∀k,k∈zx m.TL->k∈zx TL')/\(∀s,s∈zw m.L->ja c m.L m.now s=true->(⟨2,s⟩:Jk)∈zx TL'):=by
 obtain⟨Bs,i,j,B,l,b,rfl⟩:=u.to;have o:Zl c m.now m.L m.TL m.TL:=⟨h.tg,h.nt,fun _ _ e=>e⟩;obtain⟨y,z⟩:=zbW h.now.1 i o (fun s a=>⟨((l s).1 a).1,zeS ((l s).1 a).2⟩);obtain⟨g,n⟩:=zbU h.now.1 j y (fun s a=>⟨((b s).1 a).1,zeP p r h.seg ((b s).1 a).1 ((b s).1 a).2⟩);refine⟨⟨h.now,h.seg,g.ok,g.nt,fun q v=>?_,h.nq,h.jobs,h.num⟩,fun k t=>(n k).2 (.inl ((z k).2 (.inl t))),fun s a f=>(n _).2 (.inr ⟨s,(b s).2 ⟨a,f⟩,rfl⟩)⟩;have d:=h.leas q v;obtain⟨x,w,f⟩:=d.job;exact⟨⟨x,g.old _ _ w,f⟩,d.ep,d.num,d.til⟩
section
variable {c:Cf} {ep:Int} {m:MS}
theorem zlx(hn:(QL.map (fun q=>q.2.job)).Nodup){q:Tok×Lse}(l:p∈QL)(m:q∈QL)(e:p.2.job=q.2.job):p=q:=by
 have d:QL.Pairwise (fun a b=>a.2.job≠b.2.job):=List.pairwise_map.1 hn;obtain⟨i,h,f⟩:=List.getElem_of_mem l;obtain⟨j,k,g⟩:=List.getElem_of_mem m;rcases Nat.lt_trichotomy i j with c|c|c
 ·have:=List.pairwise_iff_getElem.1 d i j h k c;rw[f,g]at this;exact absurd e this
 ·subst c;rw[<-f,g]
 ·have:=List.pairwise_iff_getElem.1 d j i k h c;rw[f,g]at this;exact absurd e.symm this
theorem ZM(hn:(QL.map (fun q=>q.2.job)).Nodup)(t:Tok):((xB QL t).map (fun q=>q.2.job)).Nodup:=by
 unfold xB;exact hn.sublist (List.Sublist.map _ (List.filter_sublist))
theorem Zv(hn:(QL.map (fun q=>q.2.job)).Nodup)(c:(t,g)∈QL){q:Tok×Lse}(d:q∈xB QL t):q.2.job≠g.job:=fun e=>by
 obtain⟨a,b⟩:=xg.1 d;exact b (by rw[zlx hn a c e])
theorem MOk.failed(h:MOk c ep m)(n:zU m.QL t=E g)(l:zU m.TL g.job=E x):
  MOk c ep {m with TL:=qM m.TL g.job (x.failed m.now),QL:=xB m.QL t}:=by
 have b:=zP n;have i:=zP l;have o:x.rest<=m.now:=by
  obtain⟨y,j,f⟩:=(h.leas _ b).job;have:y=x:=by have:=j.symm.trans l;injection this
  rw[<-this];exact f
 have r:=XE (x.tc+1).toNat;have a:=h.tg _ i;refine⟨h.now,h.seg,fun p e=>?_,qY h.nt,fun q k=>?_,qI h.nq,ZM h.jobs t,h.num⟩
 ·rcases yB e with rfl|⟨e,_⟩
  ·exact⟨a.key,a.mem,a.clo,a.roll,a.recl,a.si,by have:=a.tc;simp only[Tsk.failed]at*;omega⟩
  ·exact h.tg p e
 ·have d:=h.leas q (xg.1 k).1;obtain⟨y,j,f⟩:=d.job;refine⟨⟨y,?_,f⟩,d.ep,d.num,d.til⟩;rw[jU h.nt,if_neg (Zv h.jobs b k)];exact j
theorem MOk.picked(h:MOk c ep m)(r:c.ok)(o:zU m.TL k=E x)(w:x.rest<=m.now)(l:vg m.QL x.key=false)(slot:Int):
  MOk c ep {m with num:=m.num+1,QL:=qM m.QL ⟨ep,m.num+1⟩ ⟨x.kd,x.s,slot,m.now+c.le⟩}/\(⟨ep,m.num+1⟩:Tok)∉zx m.QL/\(∀q∈m.QL,q.2.job≠x.key):=by
 have f:(⟨ep,m.num+1⟩:Tok)∉zx m.QL:=fun v=>by
  obtain⟨q,d,e⟩:=List.mem_map.1 v;have:=(h.leas q d).num;rw[e]at this;dsimp only at this;omega
 have i:∀q∈m.QL,q.2.job≠x.key:=fun q d e=>by
  unfold vg at l;rw[List.any_eq_false]at l;exact l q d (by simpa[Lse.job]using e)
 have j:qM m.QL ⟨ep,m.num+1⟩ ⟨x.kd,x.s,slot,m.now+c.le⟩=m.QL++[(⟨ep,m.num+1⟩,⟨x.kd,x.s,slot,m.now+c.le⟩)]:=by unfold qM;rw[if_neg f]
 have t:=(h.tg _ (zP o)).key;have u:=r.le;refine⟨⟨h.now,h.seg,h.tg,h.nt,fun q d=>?_,qY h.nq,?_,by have:=h.num;show 0<=m.num+1;omega⟩,f,i⟩
 ·rcases yB d with rfl|⟨d,_⟩
  ·refine⟨⟨x,?_,w⟩,rfl,⟨by have:=h.num;show 1<=m.num+1;omega,Int.le_refl _⟩,by show m.now<m.now+c.le;omega,Int.le_refl _⟩;show zU m.TL x.key=E x;rw[<-t];exact o
  ·have g:=h.leas q d;exact⟨g.job,g.ep,⟨g.num.1,by have:=g.num.2;show q.1.num<=m.num+1;omega⟩,g.til⟩
 ·show((qM m.QL ⟨ep,m.num+1⟩ ⟨x.kd,x.s,slot,m.now+c.le⟩).map (fun q=>q.2.job)).Nodup;rw[j,List.map_append,List.nodup_append];refine⟨h.jobs,by simp,fun a p b n=>?_⟩;obtain⟨q,d,rfl⟩:=List.mem_map.1 p;simp only[List.map_cons,List.map_nil,List.mem_singleton]at n;subst n;exact i q d
theorem MOk.other_seg(h:MOk c ep m)(o:zU m.TL k=E x){p:Jk×Tsk}(n:p∈xB m.TL k):p.2.s≠x.s:=fun e=>by
 obtain⟨l,d⟩:=xg.1 n;have g:=h.tg p l;have j:=h.tg _ (zP o);have b:k=x.key:=j.key;cases i:p.2.rl with
 |true=>
  have a:=g.roll i;rw[e]at a;cases f:x.rl with
  |true=>exact d (by rw[g.key,b];simp[Tsk.key,Tsk.kd,i,f,e])
  |false=>exact j.recl f a
 |false=>
  have a:=g.recl i;rw[e]at a;cases f:x.rl with
  |true=>exact a (j.roll f)
  |false=>exact d (by rw[g.key,b];simp[Tsk.key,Tsk.kd,i,f,e])
theorem MOk.done_leas(h:MOk c ep m)(d:zU m.QL t=E g):∀q∈xB m.QL t,zne c ep m.now m.num (xB m.TL g.job) q:=fun q b=>by
 have a:=h.leas q (xg.1 b).1;obtain⟨y,f,e⟩:=a.job;refine⟨⟨y,?_,e⟩,a.ep,a.num,a.til⟩;rw[zex h.nt,if_neg (Zv h.jobs (zP d) b)];exact f
theorem JA(hn:(zw L).Nodup){u:SV}(a:(s,u)∈L)(f:SV->Int):qr ((km L s v).map (fun p=>f p.2))=qr (L.map (fun p=>f p.2))-f u+f v:=by
 unfold km;rw[if_pos (show s∈zw L from List.mem_map.2 ⟨_,a,rfl⟩)];exact Vl f hn a
theorem zkh{s:Sg}{u:SV}(f:SV->Int):∀{L:LV},(zw L).Nodup->(s,u)∈L->qr ((xB L s).map (fun p=>f p.2))=qr (L.map (fun p=>f p.2))-f u
 |[],_,h=>by simp at h
 |p::L,hn,h=>by
  obtain⟨b,c⟩:=List.nodup_cons.1 (show(p.1::zw L).Nodup from hn);rcases List.mem_cons.1 h with rfl|h
  ·have e:xB ((s,u)::L) s=L:=by
    unfold xB;rw[List.filter_cons,if_neg (by simp)];refine List.filter_eq_self.2 (fun q d=>?_);simp only[decide_eq_true_eq];exact fun e=>b (List.mem_map.2 ⟨q,d,e⟩)
   rw[e];simp only[List.map_cons,qr];omega
  ·have a:p.1≠s:=fun e=>b (List.mem_map.2 ⟨_,h,e.symm⟩);have e:xB (p::L) s=p::xB L s:=(by unfold xB;rw[List.filter_cons,if_pos (by simpa using a)]);have g:=zkh f c h;rw[e];simp only[List.map_cons,qr,g];omega
theorem MOk.rolled(h:MOk c ep m)(C:zU m.QL t=E g)(z:zU m.TL g.job=E x)(F:x.rl=true)(cl:Cl):
  MOk c ep {m with L:=km m.L x.s ⟨3,cl⟩,TL:=xB m.TL g.job,QL:=xB m.QL t}/\(∀f:SV->Int,qr ((km m.L x.s ⟨3,cl⟩).map (fun p=>f p.2))=qr (m.L.map (fun p=>f p.2))-f (stL m.L x.s)+f ⟨3,cl⟩)/\(stL m.L x.s).st=2/\x.s∈zw m.L:=by
 have o:=h.tg _ (zP z);have r:(x.s,stL m.L x.s)∈m.L:=xl o.mem;have y:(stL m.L x.s).st=2:=o.roll F;have j:=fun f:SV->Int=>JA (v:=⟨3,cl⟩) h.seg.nl r f;have b:=h.seg;have q:x.s.t≠ -1:=fun e=>by have H:(stL m.L x.s).st=1:=(b.raw _ r e).1;omega
 have d:∀k,k∈zw (km m.L x.s ⟨3,cl⟩)↔k∈zw m.L:=fun k=>by
  rw[xU];exact⟨fun e=>e.elim id (fun e=>e▸o.mem),.inl⟩
 refine⟨⟨h.now,⟨fun p a=>?_,vD b.nl,fun p a n=>?_,fun p a n=>?_,fun p a=>?_,b.ng,fun p a B=>?_,b.goc,fun p a n=>?_,?_⟩,fun p a=>?_,qI h.nt,h.done_leas C,qI h.nq,ZM h.jobs t,h.num⟩,j,y,o.mem⟩
 ·rcases qG a with rfl|⟨a,_⟩
  ·exact(show inR c x.s from b.inr _ r)
  ·exact b.inr p a
 ·rcases qG a with rfl|⟨a,_⟩
  ·exact absurd n q
  ·exact b.raw p a n
 ·rcases qG a with rfl|⟨a,_⟩
  ·exact .inr rfl
  ·exact b.tier p a n
 ·rcases qG a with rfl|⟨a,_⟩
  ·exact(show x.s∉zx m.Gl from b.disj _ r)
  ·exact b.disj p a
 ·rcases qG a with rfl|⟨a,_⟩
  ·exact o.clo
  ·exact b.pubc p a B
 ·rcases qG a with rfl|⟨a,_⟩
  ·exact absurd n q
  ·rcases b.above p a n with u|u
   ·exact .inl ((d _).2 u)
   ·exact .inr u
 ·have:=j kg;have I:kg (stL m.L x.s)=2:=by unfold kg;rw[if_neg (by omega)]
  have G:kg ⟨3,cl⟩=2:=by unfold kg;rw[if_neg (by dsimp only;omega)]
  have:=b.used;show xh (km m.L x.s ⟨3,cl⟩)<=c.qu;unfold xh at*;omega
 ·have w:=h.other_seg z a;have l:=h.tg p (xg.1 a).1;have i:stL (km m.L x.s ⟨3,cl⟩) p.2.s=stL m.L p.2.s:=by rw[zjV b.nl,if_neg w]
  exact⟨l.key,(d _).2 l.mem,l.clo,fun e=>by show(stL (km m.L x.s ⟨3,cl⟩) p.2.s).st=2;rw[i];exact l.roll e,fun e=>by show(stL (km m.L x.s ⟨3,cl⟩) p.2.s).st≠2;rw[i];exact l.recl e,l.si,l.tc⟩
theorem MOk.reclaimed(h:MOk c ep m)(G:zU m.QL t=E g)(C:zU m.TL g.job=E x)(H:x.rl=false):
  MOk c ep {m with L:=xB m.L x.s,Gl:=qM m.Gl x.s (),TL:=xB m.TL g.job,QL:=xB m.QL t}/\(∀f:SV->Int,qr ((xB m.L x.s).map (fun p=>f p.2))=qr (m.L.map (fun p=>f p.2))-f (stL m.L x.s))/\(stL m.L x.s).st≠2/\x.s∈zw m.L/\(qM m.Gl x.s ()).length=m.Gl.length+1:=by
 have v:=h.tg _ (zP C);have y:(x.s,stL m.L x.s)∈m.L:=xl v.mem;have B:(stL m.L x.s).st≠2:=v.recl H;have q:=fun f:SV->Int=>zkh f h.seg.nl y;have j:=h.seg;have z:x.s∉zx m.Gl:=j.disj _ y;have a:∀p,p∈xB m.L x.s->p∈m.L/\p.1≠x.s:=fun p d=>xg.1 d;have n:∀k,k∈zw m.L->k≠x.s->k∈zw (xB m.L x.s):=fun k l i=>by
  obtain⟨p,d,rfl⟩:=List.mem_map.1 (show k∈m.L.map (·.1)from l);exact List.mem_map.2 ⟨p,xg.2 ⟨d,i⟩,rfl⟩
 have u:∀k,k≠x.s->stL (xB m.L x.s) k=stL m.L k:=fun k i=>by
  unfold stL;rw[show vf (xB m.L x.s) k=vf m.L k from by
   have:=zex (L:=m.L) j.nl x.s k;rw[if_neg i]at this;exact this]
 refine⟨⟨h.now,⟨fun p d=>j.inr p (a p d).1,qI (L:=m.L) j.nl,fun p d=>j.raw p (a p d).1,fun p d=>j.tier p (a p d).1,fun p d=>?_,qY j.ng,fun p d=>j.pubc p (a p d).1,fun k l=>?_,fun p d I=>?_,?_⟩,fun p d=>?_,qI h.nt,h.done_leas G,qI h.nq,ZM h.jobs t,h.num⟩,q,B,v.mem,?_⟩
 ·intro l;rcases xz.1 l with l|l
  ·exact j.disj p (a p d).1 l
  ·exact(a p d).2 l
 ·rcases xz.1 l with l|rfl
  ·exact j.goc k l
  ·exact v.clo
 ·rcases j.above p (a p d).1 I with w|w
  ·by_cases e:(⟨(c.b:Int),p.1.se,p.1.we*c.wi/c.W c.b⟩:Sg)=x.s
   ·exact .inr (xz.2 (.inr e))
   ·exact .inl (n _ w e)
  ·exact .inr (xz.2 (.inl w))
 ·have K:=q kg;have F:=j.use _ y;have:=j.used;show xh (xB m.L x.s)<=c.qu;unfold xh at*;dsimp only at F;omega
 ·have i:=h.other_seg C d;have r:=h.tg p (xg.1 d).1;have o:=u p.2.s i;exact⟨r.key,n _ r.mem i,r.clo,fun e=>by show(stL (xB m.L x.s) p.2.s).st=2;rw[o];exact r.roll e,fun e=>by show(stL (xB m.L x.s) p.2.s).st≠2;rw[o];exact r.recl e,r.si,r.tc⟩
 ·rw[vN,if_neg z]
end
def kr(v:SV):Int:=if v.st=1 then v.cl.cnt else 0
def QM(L:LV):Int:=qr (L.map (fun p=>kr p.2))
section
variable {c:Cf} {L:LV}
theorem Zo(x:Nm):∀(k:Nat) (L:LV) {p:Sg×SV},p∈kZ c x k L->p∈L\/∃j:Nat,j<k/\p=(zT c (j:Int) x,⟨2,qL⟩)/\zT c (j:Int) x∉zw L
 |0,L,p,h=> .inl h
 |k+1,L,p,h=>by
  have d:p∈qm c x k (kZ c x k L):=h;unfold qm at d;split at d
  ·rcases Zo x k L d with a|⟨j,a,b⟩
   ·exact .inl a
   ·exact .inr ⟨j,by omega,b⟩
  ·rename_i hn;rcases qG d with rfl|⟨d,_⟩
   ·refine .inr ⟨k,by omega,rfl,fun g=>hn ?_⟩;clear h d hn;have e:∀(k:Nat) (s:Sg),s∈zw L->s∈zw (kZ c x k L):=fun k=>by
     induction k with
     |zero=>exact fun s h=>h
     |succ k f=>intro s h;show s∈zw (qm c x k _);unfold qm;split;exact f s h;exact xU.2 (.inl (f s h))
    exact e k _ g
   ·rcases Zo x k L d with a|⟨j,a,b⟩
    ·exact .inl a
    ·exact .inr ⟨j,by omega,b⟩
theorem jC(x:Nm):∀(k:Nat) (L:LV) {p:Sg×SV},p∈L->p∈kZ c x k L
 |0,L,p,h=>h
 |k+1,L,p,h=>by
  have a:=jC x k L h;show p∈qm c x k (kZ c x k L);unfold qm;split
  ·exact a
  ·rename_i hn;unfold km;rw[if_neg hn];exact List.mem_append_left _ a
theorem Xr(x:Nm):∀(k:Nat) (L:LV),(zw L).Nodup->(zw (kZ c x k L)).Nodup
 |0,L,h=>h
 |k+1,L,h=>by
  show(zw (qm c x k (kZ c x k L))).Nodup;unfold qm;split
  ·exact Xr x k L h
  ·exact vD (Xr x k L h)
theorem XR(x:Nm):∀(k:Nat) (L:LV) (j:Nat),j<k->zT c (j:Int) x∈zw (kZ c x k L)
 |k+1,L,j,h=>by
  show _∈zw (qm c x k (kZ c x k L));unfold qm;split
  ·rename_i hm;by_cases e:j=k
   ·subst e;exact hm
   ·exact XR x k L j (by omega)
  ·by_cases e:j=k
   ·subst e;exact xU.2 (.inr rfl)
   ·exact xU.2 (.inl (XR x k L j (by omega)))
theorem ZU(d:c.ok){x:Nm}{t:Int}(a: -1<=t)(b:t<c.n)(f:now-c.la<=x.tm):¬c.clo now (zT c t x):=by
 obtain⟨e,_⟩:=d.wh a b;have:x.tm<(x.tm/c.wh t+1)*c.wh t:=Int.lt_ediv_add_one_mul_self _ (by omega);unfold Cf.clo zT;dsimp only;omega
theorem zjN(d:c.ok){x:Nm}(h:0<=x.se/\x.se<4)(e:0<=x.tm/\x.tm<=100000){t:Int}(a: -1<=t)(b:t<c.n):inR c (zT c t x):=by
 obtain⟨i,_⟩:=d.wh a b;have hn:=d.n4;have f:0<=x.tm/c.wh t:=Int.ediv_nonneg e.1 (by omega);have g:x.tm/c.wh t<=x.tm:=Int.ediv_le_self _ e.1;refine⟨⟨?_,?_,?_⟩,a,b,f,?_⟩
 ·show xX t;unfold xX;omega
 ·show xX x.se;unfold xX;omega
 ·show xX (x.tm/c.wh t);unfold xX;omega
 ·show x.tm/c.wh t<=100000;omega
theorem zjM(f:c.ok)(g:c.fits){x:Nm}(j:0<=x.tm):(⟨(c.b:Int),x.se,(xt c x).we*c.wi/c.W c.b⟩:Sg)=zT c (c.b:Int) x:=by
 obtain⟨q,i,e⟩:=g.div0;have h:=f.wi1;have a:c.wh (c.b:Int)=c.W c.b:=by unfold Cf.wh xp;rw[if_neg (by omega)];simp
 have d:c.wh (-1)=c.wi:=by unfold Cf.wh xp;rw[if_pos rfl]
 unfold xt zT;rw[a,d];dsimp only;have:x.tm/c.wi*c.wi/c.W c.b=x.tm/c.W c.b:=by
  rw[e,Int.mul_comm c.wi q,Int.mul_ediv_mul_of_pos_left _ _ (by omega),Int.ediv_ediv_of_nonneg (by omega),Int.mul_comm c.wi q]
 rw[this]
end
section
variable {c:Cf} {ep:Int} {m:MS}
theorem MOk.rawAt(h:kL c m.now m.L m.Gl)(f:c.ok){x:Nm}(hv:vf m.L (xt c x)=E v):v.st=1/\1<=v.cl.cnt/\v.cl.cnt<=400/\ -(v.cl.cnt*2147483648)<=v.cl.sum/\v.cl.sum<=v.cl.cnt*2147483648:=by
 have e:=jj hv;obtain⟨a,b,d⟩:=h.raw _ e rfl;exact⟨a,b,h.cnt f _ e rfl,d⟩
theorem zki(h:kL c m.now m.L m.Gl)(g:c.ok)(x:Nm)(f:SV->Int)(a:∀cl:Cl,f ⟨1,cl⟩=cl.cnt):qr ((yg c m.L x).map (fun p=>f p.2))=qr (m.L.map (fun p=>f p.2))+1:=by
 unfold yg;cases b:vf m.L (xt c x)with
 |none=>rw[XK f (yT.1 b),a];simp[ya]
 |some v=>
  obtain⟨d,_⟩:=MOk.rawAt h g b
  rw[JA h.nl (jj b) f,a]
  have:f v=v.cl.cnt:=by
   have e:v=⟨1,v.cl⟩:=(by cases v;simp at d;subst d;rfl);rw[e,a]
  rw[this];simp[ya];omega
theorem zkj(x:Nm)(f:SV->Int)(a:f ⟨2,qL⟩=0):∀(k:Nat) (L:LV),qr ((kZ c x k L).map (fun p=>f p.2))=qr (L.map (fun p=>f p.2))
 |0,L=>rfl
 |k+1,L=>by
  show qr ((qm c x k (kZ c x k L)).map (fun p=>f p.2))=_;unfold qm;split
  ·exact zkj x f a k L
  ·rename_i hn;rw[XK f hn,zkj x f a k L,a];omega
theorem zcw(h:kL c m.now m.L m.Gl)(a:c.ok)(x:Nm):xh (kY c m.L x)=xh m.L+1+2*yv c m.L x c.n:=by
 unfold kY;rw[zoI];have:=zki h a x kg (fun cl=>by simp[kg]);unfold xh at*;omega
theorem zif(h:kL c m.now m.L m.Gl)(a:c.ok)(x:Nm):QM (kY c m.L x)=QM m.L+1:=by
 unfold kY QM;rw[zkj x kr (by simp[kr]) c.n];exact zki h a x kr (fun cl=>by simp[kr])
theorem MOk.added(h:MOk c ep m)(z:c.ok)(N:c.fits){x:Nm}(Y:0<=x.se/\x.se<4)(P:0<=x.tm/\x.tm<=m.now)(T:m.now-c.la<=x.tm)(hv: -2147483648<=x.val/\x.val<=2147483647)(Z:xh m.L+1+2*yv c m.L x c.n<=c.qu):
  MOk c ep {m with L:=kY c m.L x}:=by
 have g:=h.seg;have O:=h.now;have V:=z.n1;have l:=fun(t:Int) (i: -1<=t) (B:t<c.n)=>ZU z i B T;have F:=fun(t:Int) (i: -1<=t) (B:t<c.n)=>zjN z Y ⟨P.1,by omega⟩ i B (x:=x);have f:∀p,p∈kY c m.L x->(p∈m.L/\p.1≠xt c x)\/p=(xt c x,⟨1,ya x.val ((vf m.L (xt c x)).map (·.cl))⟩)\/∃j:Nat,j<c.n/\p=(zT c (j:Int) x,⟨2,qL⟩)/\zT c (j:Int) x∉zw m.L:=fun p a=>by
  rcases Zo x c.n _ a with a|⟨j,i,B,C⟩
  ·rcases qG a with rfl|a
   ·exact .inr (.inl rfl)
   ·exact .inl a
  ·exact .inr (.inr ⟨j,i,B,fun U=>C (xU.2 (.inl U))⟩)
 have u:∀p,p∈m.L->p.1≠xt c x->p∈kY c m.L x:=fun p a o=>jC x c.n _ (by
  unfold yg km;split
  ·exact List.mem_map.2 ⟨p,a,by rw[if_neg o]⟩
  ·exact List.mem_append_left _ a)
 have H:(zw (kY c m.L x)).Nodup:=Xr x c.n _ (vD g.nl);have I:xt c x∈zw (kY c m.L x):=by
  have:(xt c x,(⟨1,ya x.val ((vf m.L (xt c x)).map (·.cl))⟩:SV))∈kY c m.L x:=jC x c.n _ (by
   have q:xt c x∈zw (yg c m.L x):=xU.2 (.inr rfl);have:=xl q;have e:stL (yg c m.L x) (xt c x)=⟨1,ya x.val ((vf m.L (xt c x)).map (·.cl))⟩:=(by unfold yg;rw[zjV g.nl,if_pos rfl]);rw[e]at this;exact this)
  exact List.mem_map.2 ⟨_,this,rfl⟩
 have r:∀k,k∈zw m.L->k∈zw (kY c m.L x):=fun k q=>by
  by_cases e:k=xt c x
  ·rw[e];exact I
  ·obtain⟨p,a,rfl⟩:=List.mem_map.1 (show k∈m.L.map (·.1)from q);exact List.mem_map.2 ⟨p,u p a e,rfl⟩
 have M:∀k,k∈zw m.L->k≠xt c x->stL (kY c m.L x) k=stL m.L k:=fun k q o=>zpN H (u _ (xl q) o);have X:(xt c x).t= -1:=rfl;refine⟨h.now,⟨fun p a=>?_,H,fun p a y=>?_,fun p a y=>?_,fun p a=>?_,g.ng,fun p a C=>?_,g.goc,fun p a y=>?_,?_⟩,fun p a=>?_,h.nt,h.leas,h.nq,h.jobs,h.num⟩
 ·rcases f p a with⟨a,_⟩|rfl|⟨j,G,rfl,_⟩
  ·exact g.inr p a
  ·exact F (-1) (by omega) (by omega)
  ·exact F j (by omega) (by omega)
 ·rcases f p a with⟨a,_⟩|rfl|⟨j,G,rfl,_⟩
  ·exact g.raw p a y
  ·refine⟨rfl,?_⟩;dsimp only;cases R:vf m.L (xt c x)with
   |none=>simp[ya];omega
   |some v=>obtain⟨_,b,_,d,e⟩:=MOk.rawAt g z R;simp only[Option.map_some,ya];omega
  ·have:((j:Int))= -1:=y;omega
 ·rcases f p a with⟨a,_⟩|rfl|⟨j,G,rfl,_⟩
  ·exact g.tier p a y
  ·have:0<=(xt c x).t:=y;omega
  ·exact .inl rfl
 ·rcases f p a with⟨a,_⟩|rfl|⟨j,G,rfl,_⟩
  ·exact g.disj p a
  ·exact fun q=>l (-1) (by omega) (by omega) (g.goc _ q)
  ·exact fun q=>l j (by omega) (by omega) (g.goc _ q)
 ·rcases f p a with⟨a,_⟩|rfl|⟨j,G,rfl,_⟩
  ·exact g.pubc p a C
  ·simp at C
  ·simp at C
 ·rcases f p a with⟨a,_⟩|rfl|⟨j,G,rfl,_⟩
  ·rcases g.above p a y with K|K
   ·exact .inl (r _ K)
   ·exact .inr K
  ·left;show(⟨(c.b:Int),x.se,(xt c x).we*c.wi/c.W c.b⟩:Sg)∈_;rw[zjM z N P.1];exact XR x c.n _ c.b N.bn
  ·have:((j:Int))= -1:=y;omega
 ·show xh (kY c m.L x)<=c.qu;rw[zcw g z];exact Z
 ·have i:=h.tg p a;have o:p.2.s≠xt c x:=fun e=>by
   have:=i.clo;rw[e]at this;exact l (-1) (by omega) (by omega) this
  have w:=M _ i.mem o;exact⟨i.key,r _ i.mem,i.clo,fun e=>by show(stL (kY c m.L x) p.2.s).st=2;rw[w];exact i.roll e,fun e=>by show(stL (kY c m.L x) p.2.s).st≠2;rw[w];exact i.recl e,i.si,i.tc⟩
end
section
variable {c:Cf} {now:Int} {L:LV} {Gl:List (Sg×Unit)}
theorem JD:∀(L:LV),(∀p∈L,p.2.st=1\/p.2.st=2\/p.2.st=3)->xh L=QM L+2*(xW L 2+xW L 3)
 |[],_=>by simp[xh,QM,xW,qr]
 |p::L,h=>by
  have b:=JD L (fun q a=>h q (by simp[a]));unfold xh QM xW at*;simp only[List.map_cons,qr];have:=h p (by simp);unfold kg kr Vx;rcases this with e|e|e<;>simp[e]<;>unfold kg kr Vx at b<;>omega
theorem kL.sts(h:kL c now L Gl):∀p∈L,p.2.st=1\/p.2.st=2\/p.2.st=3:=fun p a=>by
 have b:=h.inr p a;by_cases d:p.1.t= -1
 ·exact .inl (h.raw p a d).1
 ·exact .inr (h.tier p a (by have:=b.2.1;omega))
theorem kL.held1(h:kL c now L Gl):∀p∈L,p.2.st=1->1<=p.2.cl.cnt:=fun p a e=>by
 have b:=h.inr p a;by_cases d:p.1.t= -1
 ·exact(h.raw p a d).2.1
 ·have:=h.tier p a (by have:=b.2.1;omega);omega
end
theorem zle(c:Cf)(l:c.ok)(a:Option Addr)(cap:Nat)(s:Sg)(j: -1<=s.t)(k:s.t<c.n)(h:0<=s.we/\s.we<=100000)(w:D)(g:TS w a c.n c.F c.W c.K):
  Calls prog 333 #[.agg #[I s.t,I s.se,I s.we],(cZz c a cap)] w (Rz w (I ((s.we+1)*c.wh s.t))):=by
 obtain⟨o,p,f,r⟩:=box2 w (.cells #[I s.t,I s.se,I s.we] 195) (.cells (aZz c a cap) 89);have m:=fun W q=>ze (zad c l a cap s.t s.we j k h W (g.below (w':=W) q));have b:=ze f;clear g l h f o p;go_in;go_wp2_with(first|(go_at_call 180;refine(m _ b).mono ?_;rintro e w1 ⟨rfl,d⟩;have i:=ze d;clear d));go_ret;exact⟨rfl,b.trans (i.mono b.size)⟩
theorem zdc(c:Cf)(l:c.ok)(a:Option Addr)(cap:Nat)(s:Sg)(j: -1<=s.t)(k:s.t<c.n)(h:0<=s.we/\s.we<=100000)(w:D)(g:TS w a c.n c.F c.W c.K):
  Calls prog 336 #[.agg #[I s.t,I s.se,I s.we],(cZz c a cap)] w (Rz w (I ((s.we+1)*c.wh s.t+c.keep s.t))):=by
 obtain⟨o,p,f,r⟩:=box2 w (.cells #[I s.t,I s.se,I s.we] 197) (.cells (aZz c a cap) 89);have m:=fun W q=>ze (zbz c l a cap s.t s.we j k h W (g.below (w':=W) q));have b:=ze f;clear g l h f o p;go_in;go_wp2_with(first|(go_at_call 177;refine(m _ b).mono ?_;rintro e w1 ⟨rfl,d⟩;have i:=ze d;clear d));go_ret;exact⟨rfl,b.trans (i.mono b.size)⟩
theorem zgz{b:Nat}(h:zN w b c (.slice a c.n cap) ep num tb qb TL QL)(r:c.ok)(m:TS w a c.n c.F c.W c.K)(s:Sg)(si tc rest now:Int)(e: -1<=s.t)(f:s.t<c.n)(q:0<=s.we/\s.we<=100000)(R:0<=now/\now<=100000)(a4:0<=si/\si<=now)(g i:Nat)(l1:g<w.1.size)(l2:i<w.1.size)(M:w.cell? (U g 0)=E (O b))(P:w.cell? (U i 0)=E (I now)):
  Calls prog 160 #[.agg #[.iface 195 (.agg #[I s.t,I s.se,I s.we]),I si,I tc,I rest],(O g),(O i)] w (Rz w (I ((s.we+1)*c.wh s.t-(now-si)/4))):=by
 have a0:=h.lt;have d:B_ w (w.alloc (.cells #[.iface 195 (.agg #[I s.t,I s.se,I s.we]),I si,I tc,I rest] 177)):=(Q _ _).alloc (J _) _;have H:=zo w (.cells #[.iface 195 (.agg #[I s.t,I s.se,I s.we]),I si,I tc,I rest] 177);have L:=zE w (.cells #[.iface 195 (.agg #[I s.t,I s.se,I s.we]),I si,I tc,I rest] 177);have G:=fun W hW=>ze (zle c r a cap s e f q W (m.below (w':=W) hW));have hm:=zai s;have hR:0<=(s.we+1)*c.wh s.t/\(s.we+1)*c.wh s.t<=1000000000:=by
  obtain⟨a5,C⟩:=r.wh e f;obtain⟨a1,a2⟩:=r.keeps e f;have h1:=Int.mul_nonneg (show 0<=s.we+1 by omega) (show 0<=c.wh s.t by omega);have h2:=Int.mul_le_mul (show s.we+1<=100001 by omega) C (by omega) (by omega);omega
 obtain⟨v,hv⟩:∃v,(s.we+1)*c.wh s.t=v:=⟨_,rfl⟩;simp only[hv]at G hR ⊢;have hq:Int.tdiv (now-si) 4=(now-si)/4:=Int.tdiv_eq_ediv_of_nonneg (by omega);have a3:0<=(now-si)/4/\(now-si)/4<=100000:=by omega
 have T:=((h.later d)).head;obtain⟨k0,k1,-⟩:=zc H;have m1:=(d.cell (p:=(U g 0)) l1).trans M;have m2:=(d.cell (p:=(U i 0)) l2).trans P;obtain⟨y0,y1,y2,y3,y4,y5,y6,-⟩:=zc T;have j:=ze d;have V:=ze L;have Y:=ze hq;clear h m r q M P T H L d hv;go_in;go_wp2_with fail;have q1:w.1.size<w.1.size+1:=by omega
 have q2:g<w.1.size+1:=by omega
 have q3:i<w.1.size+1:=by omega
 have q4:b<w.1.size+1:=by omega
 generalize(w.alloc (.cells #[.iface 195 (.agg #[I s.t,I s.se,I s.we]),I si,I tc,I rest] 177))=X at*;generalize Z:w.1.size+1=N at*;have B:Nonempty (zm N X):=zm.some _ _;have z:=fun(u:zm N X) b o h=>u.cell b o h;have l:N<=X.1.size:=by rw[ud V];exact J _
 have x:=ze l;have k:Hid (w.1.size<=N):=by show w.1.size<=N;omega
 clear l Z;refine zh N (by kernel_rfl) (by kernel_rfl) ?_;repeat(go_big_quiet_step (first
  |(go_at_call 333;exact Calls.later x (ud (G _ (j.trans (Below.mono (Subtype.property _) k)))))))
 refine wpQuiet_nil ?_;rintro⟨w1,y⟩;clear z B;dsimp only;go_wp2_with fail;go_ret;exact⟨by first|rfl|rw[ud Y],(ud j).trans (y.mono (ud k))⟩
theorem zaq{b:Nat}(h:zN w b c (.slice a c.n cap) ep num tb qb TL QL)(r:c.ok)(m:TS w a c.n c.F c.W c.K)(s:Sg)(si tc rest now:Int)(e: -1<=s.t)(f:s.t<c.n)(q:0<=s.we/\s.we<=100000)(R:0<=now/\now<=100000)(a4:0<=si/\si<=now)(g i:Nat)(l1:g<w.1.size)(l2:i<w.1.size)(M:w.cell? (U g 0)=E (O b))(P:w.cell? (U i 0)=E (I now)):
  Calls prog 160 #[.agg #[.iface 197 (.agg #[I s.t,I s.se,I s.we]),I si,I tc,I rest],(O g),(O i)] w (Rz w (I ((s.we+1)*c.wh s.t+c.keep s.t-(now-si)/4))):=by
 have a0:=h.lt;have d:B_ w (w.alloc (.cells #[.iface 197 (.agg #[I s.t,I s.se,I s.we]),I si,I tc,I rest] 177)):=(Q _ _).alloc (J _) _;have H:=zo w (.cells #[.iface 197 (.agg #[I s.t,I s.se,I s.we]),I si,I tc,I rest] 177);have L:=zE w (.cells #[.iface 197 (.agg #[I s.t,I s.se,I s.we]),I si,I tc,I rest] 177);have G:=fun W hW=>ze (zdc c r a cap s e f q W (m.below (w':=W) hW));have hm:=YD s;have hR:0<=(s.we+1)*c.wh s.t+c.keep s.t/\(s.we+1)*c.wh s.t+c.keep s.t<=1000000000:=by
  obtain⟨a5,C⟩:=r.wh e f;obtain⟨a1,a2⟩:=r.keeps e f;have h1:=Int.mul_nonneg (show 0<=s.we+1 by omega) (show 0<=c.wh s.t by omega);have h2:=Int.mul_le_mul (show s.we+1<=100001 by omega) C (by omega) (by omega);omega
 obtain⟨v,hv⟩:∃v,(s.we+1)*c.wh s.t+c.keep s.t=v:=⟨_,rfl⟩;simp only[hv]at G hR ⊢;have hq:Int.tdiv (now-si) 4=(now-si)/4:=Int.tdiv_eq_ediv_of_nonneg (by omega);have a3:0<=(now-si)/4/\(now-si)/4<=100000:=by omega
 have T:=((h.later d)).head;obtain⟨k0,k1,-⟩:=zc H;have m1:=(d.cell (p:=(U g 0)) l1).trans M;have m2:=(d.cell (p:=(U i 0)) l2).trans P;obtain⟨y0,y1,y2,y3,y4,y5,y6,-⟩:=zc T;have j:=ze d;have V:=ze L;have Y:=ze hq;clear h m r q M P T H L d hv;go_in;go_wp2_with fail;have q1:w.1.size<w.1.size+1:=by omega
 have q2:g<w.1.size+1:=by omega
 have q3:i<w.1.size+1:=by omega
 have q4:b<w.1.size+1:=by omega
 generalize(w.alloc (.cells #[.iface 197 (.agg #[I s.t,I s.se,I s.we]),I si,I tc,I rest] 177))=X at*;generalize Z:w.1.size+1=N at*;have B:Nonempty (zm N X):=zm.some _ _;have z:=fun(u:zm N X) b o h=>u.cell b o h;have l:N<=X.1.size:=by rw[ud V];exact J _
 have x:=ze l;have k:Hid (w.1.size<=N):=by show w.1.size<=N;omega
 clear l Z;refine zh N (by kernel_rfl) (by kernel_rfl) ?_;repeat(go_big_quiet_step (first
  |(go_at_call 336;exact Calls.later x (ud (G _ (j.trans (Below.mono (Subtype.property _) k)))))))
 refine wpQuiet_nil ?_;rintro⟨w1,y⟩;clear z B;dsimp only;go_wp2_with fail;go_ret;exact⟨by first|rfl|rw[ud Y],(ud j).trans (y.mono (ud k))⟩
theorem zaz(h:xR c.s c.le c.la c.wi c.ke c.qu c.n c.F c.W c.K=true):c.ok:=by
 unfold xR at h;simp only[Bool.and_eq_true,qZ,vq]at h;obtain⟨⟨⟨⟨⟨⟨⟨⟨d,e⟩,f⟩,g⟩,j⟩,k⟩,m⟩,l⟩,o⟩:=h;have b:∀i,i<c.n->(-1<=c.F i/\c.F i<=(c.n:Int)-1)/\(1<=c.W i/\c.W i<=1000)/\(0<=c.K i/\c.K i<=1000):=fun i a=>by
  have:=l i a;unfold Z7 at this;simp only[Bool.and_eq_true,qZ]at this;exact⟨this.1.1,this.1.2,this.2⟩
 exact⟨by omega,by omega,g.1,by omega,fun i a=>(b i a).2.1,fun i a=>by have:=(b i a).1;omega,fun i a=>(b i a).2.2,j,f,k,d,e⟩
theorem zen{F:Nat->Int}{n:Nat}(a:∀i,i<n-> -1<=F i/\F i<n):∀(k:Nat) (t:Int),0<=t->t<n->down F k t=true->∃j:Nat,j<n/\F j= -1
 |0,t,b,c,h=>by simp[down]at h
 |k+1,t,b,c,h=>by
  rw[down]at h;have d:=a t.toNat (by omega);by_cases e:F t.toNat= -1
  ·exact⟨t.toNat,by omega,e⟩
  ·simp[e]at h;exact zen a k (F t.toNat) (by omega) (by omega) h
theorem Js(h:xR c.s c.le c.la c.wi c.ke c.qu c.n c.F c.W c.K=true):c.fits:=by
 have j:=zaz h;unfold xR at h;simp only[Bool.and_eq_true,qZ,vq]at h;obtain⟨⟨-,x⟩,p⟩:=h;have g:∀i,i<c.n-> -1<=c.F i/\c.F i<c.n:=fun i d=>j.F i d;have a:∀i,i<c.n->c.W i%xp c.wi c.W (c.F i)=0/\down c.F c.n i=true:=fun i d=>by
  have:=p i d;unfold zdg at this;simpa only[Bool.and_eq_true,beq_iff_eq]using this
 have k:∀i:Nat,i<c.n->∃q:Int,1<=q/\c.W i=c.wh (c.F i)*q:=fun i d=>by
  have f:=(a i d).1;have u:=(j.W i d).1;have v:=(j.wh (g i d).1 (g i d).2).1;change c.W i%c.wh (c.F i)=0 at f;obtain⟨q,k⟩:=Int.dvd_of_emod_eq_zero f;refine⟨q,?_,k⟩;rcases Int.lt_or_le q 1 with r|l
  ·exfalso;have w:c.wh (c.F i)*q<=c.wh (c.F i)*0:=Int.mul_le_mul_of_nonneg_left (by omega) (by omega);omega
  ·exact l
 have t:=j.n1;obtain⟨o,e⟩:=Cf.b_of (c:=c) (zen g c.n ((0:Nat):Int) (by omega) (by omega) (a 0 (by omega)).2);obtain⟨q,f,m⟩:=k c.b o;refine⟨o,e,⟨q,f,?_⟩,g,k,fun i d=>(a i d).2⟩;rw[m,e];unfold Cf.wh xp;rw[if_pos rfl]
def XP(c:Cf)(m:MS):Prop:=∃Bs:List (Sg×Unit),(∀x,x∈zx Bs↔∃k,k∈zw m.L/\(stL m.L k).st=2/\x∈kP c k)/\(∀s,s∈zw m.L->jd c Bs m.L m.now s=true->(⟨1,s⟩:Jk)∈zx m.TL)/\(∀s,s∈zw m.L->ja c m.L m.now s=true->(⟨2,s⟩:Jk)∈zx m.TL)
theorem Jm{now:Int}:∀(c:List Sg) {T:List (Jk×Tsk)},(∀k,k∈zx T->k∈zx (c.foldl (yr now) T))/\∀s∈c,(⟨1,s⟩:Jk)∈zx (c.foldl (yr now) T)
 |[],T=>⟨fun _ h=>h,fun s b=>by cases b⟩
 |y::c,T=>by
  have d:∀k,k∈zx T\/k=⟨1,y⟩->k∈zx (yr now T y):=fun k a=>by
   unfold yr;split
   ·rename_i x hx;rcases a with a|rfl
    ·exact a
    ·exact List.mem_map.2 ⟨_,zP hx,rfl⟩
   ·exact xz.2 a
  obtain⟨e,f⟩:=Jm c (T:=yr now T y);refine⟨fun k a=>e k (d k (.inl a)),fun s b=>?_⟩;rcases List.mem_cons.1 b with rfl|b
  ·exact e _ (d _ (.inr rfl))
  ·exact f s b
theorem QW{now:Int}:∀(c:List Sg) {T:List (Jk×Tsk)},(∀k,k∈zx T->k∈zx (c.foldl (yV now) T))/\∀s∈c,(⟨2,s⟩:Jk)∈zx (c.foldl (yV now) T)
 |[],T=>⟨fun _ h=>h,fun s b=>by cases b⟩
 |y::c,T=>by
  have d:∀k,k∈zx T\/k=⟨2,y⟩->k∈zx (yV now T y):=fun k a=>by
   unfold yV;split
   ·rename_i x hx;rcases a with a|rfl
    ·exact a
    ·exact List.mem_map.2 ⟨_,zP hx,rfl⟩
   ·exact xz.2 a
  obtain⟨e,f⟩:=QW c (T:=yV now T y);refine⟨fun k a=>e k (d k (.inl a)),fun s b=>?_⟩;rcases List.mem_cons.1 b with rfl|b
  ·exact e _ (d _ (.inr rfl))
  ·exact f s b
section
variable {c:Cf} {ep:Int} {m:MS} {ns:List Nm}
theorem XP.of(i:qN c m TL'):XP c {m with TL:=TL'}:=by
 obtain⟨Bs,e,a,h,f,g,rfl⟩:=i.to;exact⟨Bs,h,fun s d b=>(QW a).1 _ ((Jm e).2 s ((f s).2 ⟨d,b⟩)),fun s d b=>(QW a).2 s ((g s).2 ⟨d,b⟩)⟩
end
