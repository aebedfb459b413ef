import Derived.Test.YtndhpgciopcncaaGreatDoorHLad0
import Derived.Deep.RegionHeld3
import Derived.Test.YtndhpgciopcncaaGreatDoorHRefT
open Option renaming some → J
open Nat renaming le_refl → E
open Go renaming World → Q
open Go.RowKit.Below renaming refl → Z
set_option linter.unusedVariables false
set_option maxRecDepth 20000
set_option maxHeartbeats 4000000
open Go.Proofs.Tryz
namespace Go.Proofs.YtndhpgciopcncaaGreatDoor
open Go.ChangeMaps (setBlock)
open Go.RowKit Go.Maps Go.Shelf
variable {c:Cf} {i:Ids} {ep:Int} {g:Nat} {f:Nat->Prop} {fr:Nat×Nat} {w w':Q}
structure xK(dn:Bool)(w:Q)(i:Ids)(c:Cf)(ep:Int)(m:MS):Prop where
 head:w.1[i.x]?=J (.cells #[I c.s,I c.le,I c.la,I c.wi,I c.ke,I c.qu,i.tv,I ep,I m.now,(O i.s),(O i.b),(O i.j),.bool dn] 94 (0,0))
 set:xI w i.s c i.tv i.lb i.gb m.Gl m.L
 board:zC w i.b c i.tv ep m.num i.tb i.qb m.TL m.QL
 a1:i.lb≠i.tb
 a2:i.lb≠i.qb
 a3:i.gb≠i.tb
 a4:i.gb≠i.qb
section
variable {dn:Bool} {w:Q} {i:Ids} {c:Cf} {ep:Int} {m:MS}
theorem xK.lt(h:xK dn w i c ep m):i.x<w.1.size:=zd h.head
theorem xK.kept(h:xK dn w i c ep m)(b:zi f w w')(hn:∀k,Zz i k->¬f k):xK dn w' i c ep m:=
 ⟨b.heap h.head (hn i.x (.inl rfl)),h.set.kept b (fun k a=>hn k (.inr (.inl a))),h.board.kept b (fun k a=>hn k (.inr (.inr a))),h.a1,h.a2,h.a3,h.a4⟩
theorem xK.later(h:xK dn w i c ep m)(a:Below w.1.size w w'):xK dn w' i c ep m:=h.kept (f:=fun _=>False) (zi.of_below a) (fun _ _ b=>b)
theorem xK.foot_lt(h:xK dn w i c ep m):∀k,Zz i k->k<w.1.size:=fun k a=>by
 rcases a with rfl|a|a
 ·exact h.lt
 ·exact h.set.foot_lt k a
 ·exact h.board.foot_lt k a
theorem xK.cells(h:xK dn w i c ep m):w.cell? (U i.x 0)=J (I c.s)/\w.cell? (U i.x 1)=J (I c.le)/\w.cell? (U i.x 2)=J (I c.la)/\w.cell? (U i.x 3)=J (I c.wi)/\w.cell? (U i.x 4)=J (I c.ke)/\w.cell? (U i.x 5)=J (I c.qu)/\w.cell? (U i.x 6)=J i.tv/\w.cell? (U i.x 7)=J (I ep)/\w.cell? (U i.x 8)=J (I m.now)/\w.cell? (U i.x 9)=J (O i.s)/\w.cell? (U i.x 10)=J (O i.b):=by
 refine⟨?_,?_,?_,?_,?_,?_,?_,?_,?_,?_,?_⟩<;>rw[xR h.head]<;>rfl
theorem xK.x_set(h:xK dn w i c ep m):∀k,Z0 i.s i.tv i.lb i.gb k->k≠i.x:=fun k b e=>by
 subst e;have a:=h.head;rcases b with e|b|e|e
 ·rw[e,h.set.head]at a;cases a
 ·obtain⟨d,f⟩:=zH h.set.trow b;rw[f]at a;cases a
 ·exact xH (qK.1 h.set.live) a e.symm
 ·exact xH h.set.gone a e.symm
theorem xK.x_board(h:xK dn w i c ep m):∀k,Zc i.b i.tb i.qb k->k≠i.x:=fun k f e=>by
 subst e;have a:=h.head;rcases f with e|e|e
 ·rw[e,h.board.head]at a;injection a with a;injection a with g d;exact absurd d (by decide)
 ·exact xH h.board.td a e.symm
 ·exact xH h.board.leases a e.symm
theorem xK.parts(h:xK dn w i c ep m):∀k,Z0 i.s i.tv i.lb i.gb k->¬Zc i.b i.tb i.qb k:=fun k l n=>by
 rcases n with e|e|e
 ·have a:=h.board.head;rw[<-e]at a;rcases l with e|j|e|e
  ·rw[e,h.set.head]at a;cases a
  ·obtain⟨d,g⟩:=zH h.set.trow j;rw[g]at a;cases a
  ·exact xH (qK.1 h.set.live) a e.symm
  ·exact xH h.set.gone a e.symm
 ·rcases l with f|j|f|f
  ·exact xH h.board.td h.set.head (by omega)
  ·obtain⟨d,g⟩:=zH h.set.trow j;exact xH h.board.td g e.symm
  ·exact h.a1 (by omega)
  ·exact h.a3 (by omega)
 ·rcases l with f|j|f|f
  ·exact xH h.board.leases h.set.head (by omega)
  ·obtain⟨d,g⟩:=zH h.set.trow j;exact xH h.board.leases g e.symm
  ·exact h.a2 (by omega)
  ·exact h.a4 (by omega)
theorem xK.setNow(h:xK dn w i c ep m)(n:Int):xK dn (w.setCell (U i.x 8) (I n)) i c ep {m with now:=n}:=by
 have b:zi (fun k=>k=i.x) w (w.setCell (U i.x 8) (I n)):=zg (zi.refl _ _) rfl;exact⟨xD (i:=8) h.head (I n),h.set.kept b (fun k a=>h.x_set k a),h.board.kept b (fun k a=>h.x_board k a),h.a1,h.a2,h.a3,h.a4⟩
theorem xK.putBoard(h:xK dn w i c ep m){num:Int}{TL:List (Jk×Tsk)}{QL:List (Tok×Lse)}(d:zC w' i.b c i.tv ep num i.tb i.qb TL QL)(a:zi (Zc i.b i.tb i.qb) w w'):xK dn w' i c ep {m with num:=num,TL:=TL,QL:=QL}:=
 ⟨a.heap h.head (fun e=>h.x_board _ e rfl),h.set.kept a (fun k f=>h.parts k f),d,h.a1,h.a2,h.a3,h.a4⟩
theorem xK.putSet(h:xK dn w i c ep m){L:LV}{Gl:List (Sg×Unit)}(b:xI w' i.s c i.tv i.lb i.gb Gl L)(a:zi (Z0 i.s i.tv i.lb i.gb) w w'):xK dn w' i c ep {m with L:=L,Gl:=Gl}:=
 ⟨a.heap h.head (fun e=>h.x_set _ e rfl),b,h.board.kept a (fun k d e=>h.parts k e d),h.a1,h.a2,h.a3,h.a4⟩
theorem xK.ts(h:xK dn w i c ep m):∃a cap,i.tv=.slice a c.n cap/\TS w a c.n c.F c.W c.K:=by
 obtain⟨a,cap,e⟩:=zR h.set.trow;exact⟨a,cap,e,TS.of_owns (e▸h.set.trow)⟩
theorem xK.cells2(h:xK dn w i c ep m):w.cell? (U i.x 11)=J (O i.j)/\w.cell? (U i.x 12)=J (.bool dn):=by
 refine⟨?_,?_⟩<;>rw[xR h.head]<;>rfl
end
section
variable {w:Q} {i:Ids} {c:Cf} {ep:Int} {m:MS} {q:JM}
theorem zO.own(h:zO w i c ep m q):xK q.dn w i c ep m:=⟨h.head,h.set,h.board,h.a1,h.a2,h.a3,h.a4⟩
theorem zO.put{m':MS}(h:zO w i c ep m q)(a:xK q.dn w' i c ep m')(l:zi f w w')(j:∀k,f k->Zz i k):zO w' i c ep m' q/\Kx i w w':=by
 obtain⟨b,d,e,g⟩:=h.jkept l j;exact⟨⟨a.head,a.set,a.board,b,d,h.a1,h.a2,h.a3,h.a4,e⟩,g⟩
end
def MS.took(m:MS)(now:Int)(xs:List SX):MS:={m with now:=now,L:=(qr (m.Gl,m.L) xs).2,Gl:=(qr (m.Gl,m.L) xs).1}
variable {m:MS}
theorem zmr{q:JM}(h:zO w i c ep m q)(now:Int)(xs:List SX)(u:∀x∈xs,x.1.wf)(S:m.Gl.length+xs.length<=1000000000)(T:m.L.length+xs.length<=1000000000)(base:Nat)(v:Value)(hv:ju w base v xs):
  Calls prog 109 #[(O i.x),.agg #[I now,v]] w fun e w'=>e=.returned (.tuple #[])/\zO w' i c ep (m.took now xs) q/\Kx i w w':=by
 obtain⟨ad,cap,rfl⟩:=hv.slice;obtain⟨n,j⟩:=h.setNow now;have r:(w.setCell (U i.x 8) (I now)).1.size=w.1.size:=by simp
 obtain⟨Y,f⟩:∃Y,(w.setCell (U i.x 8) (I now)).alloc (.cells #[I now,.slice ad xs.length cap] 190)=Y:=⟨_,rfl⟩;have g:Below (w.setCell (U i.x 8) (I now)).1.size (w.setCell (U i.x 8) (I now)) Y:=by rw[<-f];exact(Z _ _).alloc (E _) _
 have o:Y.1[w.1.size]?=J (.cells #[I now,.slice ad xs.length cap] 190 (0,0)):=by rw[<-f,<-r];exact zq _ _
 have d:=n.later g;have l:=j.trans (Kx.below g n.dlt);have a3:¬w.1.size=i.x:=by have:=h.lt;omega
 have a0:¬i.x=w.1.size:=by have:=h.lt;omega
 have a4:=h.lt;obtain⟨-,-,-,-,-,-,-,-,x8,-⟩:=zc h.head;have xf:=zw h.head 8;obtain⟨-,y1,-⟩:=zc o;obtain⟨-,-,-,-,-,-,-,-,-,y9,-⟩:=zc d.head;have p:zi (fun k=>k=i.x) w (w.setCell (U i.x 8) (I now)):=zg (zi.refl _ _) rfl;have t:ju Y base (.slice ad xs.length cap) xs:=xp (zh hv p (fun k hk e=>by
  obtain⟨a2,hc⟩:=zH hv hk;rw[e]at hc;exact absurd (Z6 h.head hc) (by decide))) g
 have M:=fun W (hW:Below Y.1.size Y W)=>ze (zeE (d.later hW).set xs u S T base _ (xp t hW));have N:=M Y (Z _ _);have P:=M Y.drew (Z _ _).drew;have H:=ze d;have K:=ze (d.later (w':=Y.drew) (Z _ _).drew);have F:=ze l;have G:=ze (l.trans (Kx.below (w':=Y.drew) (Z _ _).drew d.dlt));have a1:=ze d.foot_lt;have z:¬i.x=i.lb:=fun e=>d.x_set i.lb (.inr (.inr (.inl rfl))) e.symm;have A:¬i.x=i.gb:=fun e=>d.x_set i.gb (.inr (.inr (.inr rfl))) e.symm;have B:¬w.1.size=i.lb:=fun e=>by have:=h.foot_lt i.lb (.inl (.inr (.inl (.inr (.inr (.inl rfl))))));omega
 have C:¬w.1.size=i.gb:=fun e=>by have:=h.foot_lt i.gb (.inl (.inr (.inl (.inr (.inr (.inr rfl))))));omega
 have lY:w.1.size<Y.1.size:=zd o;have y:=d.lt;have R:=ze f;clear h d n l j g o f p t hv M u r;go_enter func109,ntmps109;go_wp2_with fail;rw[ud R];go_region_held3 (fun w'=>w'.cell? (U i.x 9)=J (O i.s)/\w'.cell? (U w.1.size 1)=J (.slice ad xs.length cap)) (go_keep) (first
  |(go_at_call 170;(with_reducible refine(ud N).mono ?_);rintro e V ⟨rfl,b,a⟩;have v9:=(zL (i:=9) a (fun e=>e.elim z A) y).trans y9;have v1:=(zL (i:=1) a (fun e=>e.elim B C) lY).trans y1;have D:=ze ((ud H).putSet b (a.mono (fun k _ e=>e.elim (fun e=> .inr (.inr (.inl e))) (fun e=> .inr (.inr (.inr e))))));have X:=ze ((ud F).trans (ud D).2);clear b a)
  |(go_at_call 170;(with_reducible refine(ud P).mono ?_);rintro e V ⟨rfl,b,a⟩;have v9:=(zL (i:=9) a (fun e=>e.elim z A) y).trans y9;have v1:=(zL (i:=1) a (fun e=>e.elim B C) lY).trans y1;have D:=ze ((ud K).putSet b (a.mono (fun k _ e=>e.elim (fun e=> .inr (.inr (.inl e))) (fun e=> .inr (.inr (.inr e))))));have X:=ze ((ud G).trans (ud D).2);clear b a))
 all_goals go_wp2_with fail
 all_goals go_end0
 all_goals exact⟨rfl,(ud D).1,ud X⟩
theorem z11{a0 a1 a2 a3 a4 a5 a6 a7 b a9 a:Value}{t:TypeId}(h:w.1[g]?=J (.cells #[a0,a1,a2,a3,a4,a5,a6,a7,b,a9,a] t fr)):w.cell? (U g 0)=J a0/\w.cell? (U g 1)=J a1/\w.cell? (U g 2)=J a2/\w.cell? (U g 3)=J a3/\w.cell? (U g 4)=J a4/\w.cell? (U g 5)=J a5/\w.cell? (U g 6)=J a6/\w.cell? (U g 7)=J a7/\w.cell? (U g 8)=J b/\w.cell? (U g 9)=J a9/\w.cell? (U g 10)=J a:=by
 refine⟨?_,?_,?_,?_,?_,?_,?_,?_,?_,?_,?_⟩<;>rw[xR h]<;>rfl
theorem zqI{X V:Q}(h:Below X.drew.1.size X.drew V):Below X.1.size X V:=⟨h.os,h.tape,h.output,h.size,h.block⟩
abbrev zdp:Value:=.agg #[I 0,I 0,I 0,I 0,I 0,I 0,I 0,I 0,I 0,I 0,I 0]
def kW(u q:Int):Bool:=decide (3*q<4*u)
theorem zqV(v:Value)(w:Q):(Instr.typeAssert (.iface 195 v) 99 195 true).run prog w=.ok (.tuple #[v,.bool true]) w:=by kernel_rfl
theorem zqU(v:Value)(w:Q):(Instr.typeAssert (.iface 197 v) 99 195 true).run prog w=.ok (.tuple #[.agg #[I 0,I 0,I 0],.bool false]) w:=by kernel_rfl
theorem zqT(v:Value)(w:Q):(Instr.typeAssert (.iface 197 v) 99 197 true).run prog w=.ok (.tuple #[v,.bool true]) w:=by kernel_rfl
theorem Jp{dn:Bool}(h:xK dn w i c ep m)(q:c.ok)(t:0<=zV m.L/\zV m.L<=1000):
  Calls prog 45 #[(O i.x)] w (Rz w (.bool (kW (zV m.L) c.qu))):=by
 obtain⟨a,cap,j,g⟩:=h.ts;obtain⟨B,C,D,F,G,H,n,-,-,I,-⟩:=h.cells;rw[j]at n;have z:=h.lt;obtain⟨r,s⟩:=q.qu;have l:=fun W p=>ze (Qc ((h.later (w':=W) p).set) (by unfold xz;omega));have k:=fun W=>ze (QB c a cap W);obtain⟨v,y⟩:=t;unfold kW;generalize zV m.L=A at*;clear h g;go_enter func45,ntmps45;go_wp2_with fail;have f:Nonempty (xg w.1.size w):=xg.some _ _;have e:=fun(u:xg w.1.size w) b o h=>u.cell b o h;refine zy w.1.size (by kernel_rfl) (by kernel_rfl) ?_;repeat(go_big_quiet_step (first
  |(go_at_call 43;exact Calls.later (E _) (ud (l _ (Subtype.property _))))
  |(go_at_call 63;exact Calls.later (E _) (ud (k _)))))
 refine wpQuiet_nil ?_;rintro⟨w1,d⟩;clear e f;dsimp only;go_wp2_with fail;go_ret;exact⟨rfl,d⟩
theorem zga{base size:Nat}{e:TypeId}{cs:Array Value}(h:w.1[g]?=J (.cells cs e (0,0)))(b:cs.size=0)(a:base<=g):w.ownsRow base e size (.slice (J (U g 0)) 0 0) 0 []:=
 ⟨by simp,.inr ⟨g,0,cs,rfl,a,h,⟨E _,by simp[maxLen],by simp[b],by simp⟩⟩⟩
theorem zhG(c:Cf)(D:c.ok)(a:Option Addr)(cap:Nat)(w:Q)(h:TS w a c.n c.F c.W c.K):
  Calls prog 129 #[.slice a c.n cap] w fun e w'=>∃g d,e=.returned (.slice (J (U g 0)) c.n d)/\w'.ownsRow w.1.size 80 3 (.slice (J (U g 0)) c.n d) c.n (ZC c.n c.F c.W c.K)/\Below w.1.size w w':=by
 have O:=D.n1;have P:=D.n4;have B:=zjX h;obtain⟨ad,t,r⟩:=B (by rw[qI];omega);subst t;have f:∀o,Below w.1.size w (w.alloc o):=fun o=>(Z _ _).alloc (E _) _;have hnews:∀o,∀j u,(ZC c.n c.F c.W c.K)[j]?=J u->(w.alloc o).cell? (ad.add j)=J u:=fun o j u R=>by
  have C:=r j u R;obtain⟨b,l,M,v,_⟩:=h (by omega);cases M;have q:((U b l):Addr).add j=(U b (l+j)):=by unfold Addr.add;split<;>simp_all
  rw[q]at C ⊢;exact((f o).cell (p:=(U b (l+j))) v).trans C
 have G:(binOp .eql 25 (.slice (J ad) c.n cap) (.slice none 0 0)).run prog w=.ok (.bool false) w:=by kernel_rfl
 have I:=ze hnews;have x:0<c.n:=by omega
 have y:0+c.n<=maxLen:=by simp only[maxLen];omega
 have z:(0+c.n)*24<=140737488355328:=by omega
 have A:∀o,w.1.size<=(w.alloc o).1.size:=fun o=>by rw[zM];omega
 clear h B r hnews;go_enter func129,ntmps129;go_wp2_with(first|(at_builtin;refine xQ rfl _ _ 25 rfl w.1.size 80 _ 3 24 underlying25 Tryz.infoTierR rfl (by decide) (.slice (J (U w.1.size 0)) 0 0) 0 [] rfl (zga (zq _ _) rfl (E _)) ad c.n cap (ZC c.n c.F c.W c.K) rfl (qI _ _ _ _) (ud I _) (zeL _ _ _ _) x y z (A _) ?_;intro g m w2 s H i L N)|go_in);go_ret;refine⟨g,m,by simp,by simpa using s,?_⟩;exact(f _).grown i (f _).size (fun k e=>by cases e;exact E _)
theorem set7{a b c d e f i:Value}{t:TypeId}(h:w.1[g]?=J (.cells #[a,b,c,d,e,f,i] t fr))(j k l m n o p:Value):(((((((w.setCell (U g 0) j).setCell (U g 1) k).setCell (U g 2) l).setCell (U g 3) m).setCell (U g 4) n).setCell (U g 5) o).setCell (U g 6) p).1[g]?=J (.cells #[j,k,l,m,n,o,p] t fr):=by
 have q:(w.setCell (U g 0) j).1[g]?=J (.cells #[j,b,c,d,e,f,i] t fr):=xD (i:=0) h j;have r:((w.setCell (U g 0) j).setCell (U g 1) k).1[g]?=J (.cells #[j,k,c,d,e,f,i] t fr):=xD (i:=1) q k;have s:(((w.setCell (U g 0) j).setCell (U g 1) k).setCell (U g 2) l).1[g]?=J (.cells #[j,k,l,d,e,f,i] t fr):=xD (i:=2) r l;have u:((((w.setCell (U g 0) j).setCell (U g 1) k).setCell (U g 2) l).setCell (U g 3) m).1[g]?=J (.cells #[j,k,l,m,e,f,i] t fr):=xD (i:=3) s m;have v:(((((w.setCell (U g 0) j).setCell (U g 1) k).setCell (U g 2) l).setCell (U g 3) m).setCell (U g 4) n).1[g]?=J (.cells #[j,k,l,m,n,f,i] t fr):=xD (i:=4) u n;have x:((((((w.setCell (U g 0) j).setCell (U g 1) k).setCell (U g 2) l).setCell (U g 3) m).setCell (U g 4) n).setCell (U g 5) o).1[g]?=J (.cells #[j,k,l,m,n,o,i] t fr):=xD (i:=5) v o;have y:(((((((w.setCell (U g 0) j).setCell (U g 1) k).setCell (U g 2) l).setCell (U g 3) m).setCell (U g 4) n).setCell (U g 5) o).setCell (U g 6) p).1[g]?=J (.cells #[j,k,l,m,n,o,p] t fr):=xD (i:=6) x p;exact y
theorem zlt(c:Cf)(H:c.ok)(a:Option Addr)(cap:Nat)(w:Q)(h:TS w a c.n c.F c.W c.K):
  Calls prog 67 #[(cZz c a cap)] w fun e w'=>∃g l,e=.returned ((cZz c (J (U g 0)) l))/\w'.ownsRow w.1.size 80 3 (.slice (J (U g 0)) c.n l) c.n (ZC c.n c.F c.W c.K)/\Below w.1.size w w':=by
 obtain⟨C,L,p,M⟩:=box2 w (.cells (aZz c a cap) 27) (.cells #[I 0,I 0,I 0,I 0,I 0,I 0,.slice none 0 0] 89);have O:=ze (zhG c H a cap _ (h.below p));obtain⟨-,-,-,-,-,-,x6,-⟩:=zc C;clear h;go_enter func67,ntmps67;have P:=ze C;have R:=ze L;have o:=ze p;have D:=ze M;clear C L p M;go_wp2_with fail;generalize((w.alloc (.cells (aZz c a cap) 27)).alloc (.cells #[I 0,I 0,I 0,I 0,I 0,I 0,.slice none 0 0] 89))=X at*;refine(ud O).mono ?_;rintro e w1 ⟨g,b,rfl,m,d⟩;have t:w.1.size<X.1.size:=by rw[ud D];omega
 have B:w.1.size+1<X.1.size:=by rw[ud D];omega
 have u:=(d.block w.1.size t).trans (ud P);have x:=(d.block (w.1.size+1) B).trans (ud R);obtain⟨z0,z1,z2,z3,z4,z5,z6,-⟩:=zc u;have zf:=fun j=>zw u j;obtain⟨r0,r1,r2,r3,r4,r5,r6,-⟩:=zc x;have rf:=fun j=>zw x j;have V:=ze u;have N:=ze x;have f:=ze m;have z:=ze d;clear u x m d;go_wp2_with fail;have A:=zI (w:=w1) (g:=w.1.size) (i:=6) (k:=w.1.size+1) (v:=.slice (J (U g 0)) c.n b) (by omega);have T:=set7 (A.trans (ud N)) (I c.s) (I c.le) (I c.la) (I c.wi) (I c.ke) (I c.qu) (.slice (J (U g 0)) c.n b);have r:Below X.1.size X w1:=ud z;have q:zi (fun k=>k=w.1.size\/k=w.1.size+1) w1 ((((((((w1.setCell (U w.1.size 6) (.slice (J (U g 0)) c.n b)).setCell (U (w.1.size+1) 0) (I c.s)).setCell (U (w.1.size+1) 1) (I c.le)).setCell (U (w.1.size+1) 2) (I c.la)).setCell (U (w.1.size+1) 3) (I c.wi)).setCell (U (w.1.size+1) 4) (I c.ke)).setCell (U (w.1.size+1) 5) (I c.qu)).setCell (U (w.1.size+1) 6) (.slice (J (U g 0)) c.n b)):=
  zg (zg (zg (zg (zg (zg (zg (zg (zi.refl _ _) (.inl rfl)) (.inr rfl)) (.inr rfl)) (.inr rfl)) (.inr rfl)) (.inr rfl)) (.inr rfl)) (.inr rfl)
 refine bodyPost_ret (v:=(cZz c (J (U g 0)) b)) (results_cell_row results67 _ _ (w.1.size+1) _ _ _ _ rfl T underlying89 rfl (by kernel_rfl)) rfl ?_;refine⟨g,b,rfl,?_,(ud o).trans ((r.mono (ud o).size).trans (q.below (Nat.le_trans (ud o).size r.size) (fun k y=>by rcases y with rfl|rfl<;>omega)))⟩;refine kI (zh (ud f) q (fun k y=>?_)) (Nat.le_of_lt t);have:X.1.size<=k:=by
  have hg:k=g:=by simp[Value.ownBlock]at y;exact y.symm
  obtain⟨Y,G,hv,S,_⟩:=(ud f).form (by have:=H.n1;omega);cases hv;omega
 omega
theorem zlY(c:Cf)(a:Option Addr)(cap:Nat)(w:Q):
  Calls prog 68 #[(cZz c a cap)] w fun e w'=>∃s lb gb,e=.returned (O s)/\w.1.size<=s/\w.1.size<=lb/\w.1.size<=gb/\gb≠lb/\w'.1[s]?=J (.cells #[I c.s,I c.le,I c.la,I c.wi,I c.ke,I c.qu,.slice a c.n cap,.map (J lb),.map (J gb)] 155 (0,0))/\yI w' lb []/\xi jA w' gb []/\Below w.1.size w w':=by
 have j:∀W:Q,(Instr.makeMap 152 none).run prog W=.ok (.map (J W.1.size)) (W.alloc (.map #[] 0)):=fun W=>by kernel_rfl
 have m2:∀W:Q,(Instr.makeMap 153 none).run prog W=.ok (.map (J W.1.size)) (W.alloc (.map #[] 0)):=fun W=>by kernel_rfl
 go_enter func68,ntmps68;go_wp2_with fail;go_ret;obtain⟨i,f,g,b,h⟩:=Jv w (.cells (aZz c a cap) 89) (.map #[] 0) (.map #[] 0);generalize(((w.alloc (.cells (aZz c a cap) 89)).alloc (.map #[] 0)).alloc (.map #[] 0))=X at*;have d:=zq X (.cells #[I c.s,I c.le,I c.la,I c.wi,I c.ke,I c.qu,.slice a c.n cap,.map (J (w.1.size+1)),.map (J (w.1.size+2))] 155);rw[h]at d;refine⟨w.1.size+3,w.1.size+1,w.1.size+2,rfl,by omega,by omega,by omega,by omega,d,⟨#[],0,(Below.heap_alloc _ _ _ (by omega)).trans f,⟨rfl,by simp,by simp,by simp,by simp[zn],by simp⟩⟩,⟨#[],0,(Below.heap_alloc _ _ _ (by omega)).trans g,⟨rfl,by simp,by simp,by simp,by simp[zk],by simp⟩⟩,b.alloc b.size _⟩
theorem zfI(d:Nat)(w:Q):Calls prog 70 #[(O d)] w fun e w'=>∃j,e=.returned (O j)/\w.1.size<=j/\w'.1[j]?=J (.cells #[(O d),I 0] 216 (0,0))/\Below w.1.size w w':=by
 go_enter func70,ntmps70;go_wp2_with fail;go_ret;exact⟨_,rfl,E _,zq _ _,(Z _ _).alloc (E _) _⟩
end Go.Proofs.YtndhpgciopcncaaGreatDoor
