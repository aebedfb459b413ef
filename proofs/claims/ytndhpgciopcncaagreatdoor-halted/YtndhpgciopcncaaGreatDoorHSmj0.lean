import Derived.Test.YtndhpgciopcncaaGreatDoorHStp3
open Nat renaming lt_of_lt_of_le → J
open Go.RowKit renaming Below → E
open Option renaming some → N
open Go.RowKit.Below renaming refl → S
open Nat renaming le_refl → A
open Go.Value (int)
open Go.IntKind (i32)
set_option linter.unusedVariables false
set_option maxRecDepth 20000
set_option maxHeartbeats 16000000
namespace Go.Proofs.YtndhpgciopcncaaGreatDoor
open Go.RowKit Go.Maps Go.Shelf
variable {a:Act} {P:Program} {w:World}
theorem kF{id:Nat}{Q:Exit->Act->World->Prop}{l:List Oper}(d:P.follows .mixedOrders=true)(c:Region.lexB .any l.toArray=true)(h:wpStill P l.toArray w.drew (fun b=>Q .normal b w.drew) l a):(Code.region id l.toArray true).wp P Q a w:=wp_region_still_lit d c h
theorem yN{ops:Array Oper}{Q:Act->Prop}{o:Oper}{rest:List Oper}(h:Region.wanted o (yielded ops a.tmps)=false)(b:wpStill P ops w Q rest (a.put o.dst undef)):wpStill P ops w Q (o::rest) a:=by
 unfold wpStill;rw[h];exact b
structure zpz(c:Cf)(m1 m2:MS)(w w':World)(e:Ending):Prop where
 out:∃q,e=.returned (.bool q)/\E w.1.size w w'/\(ya c m1 m2->q=true)
section
variable {w:World} {B:Nat} {s:Shp} {c:Cf} {Mp:World->Prop} {sn:Int} {ns:List Nm} {ks:List Tok} {us:List Int}
theorem zJ.more(h:zJ w B s c Mp sn ns ks us):w.cell? (U s.p 5)=N (I c.wi)/\w.cell? (U s.p 6)=N (I c.ke):=by
 constructor<;>rw[xR h.head]<;>rfl
theorem zJ.tiers(h:zJ w B s c Mp sn ns ks us)(k:c.ok):∃b d cap,s.ct=.slice (N (U b d)) c.n cap/\b<w.1.size/\∀i,i<c.n->w.cell? (U b (d+i*3))=N (I (c.F i))/\w.cell? (U b (d+i*3+1))=N (I (c.W i))/\w.cell? (U b (d+i*3+2))=N (I (c.K i)):=by
 obtain⟨a,cap,e⟩:=zR h.crow;have j:=h.crow;rw[e]at j;obtain⟨b,d,rfl,f,g⟩:=TS.of_owns j (by have:=k.n1;omega);exact⟨b,d,cap,e,f,g⟩
theorem YK(h:zJ w B s c Mp sn ns ks us)(f:c.ok)(t:Int)(q: -1<=t)(r:t<c.n):
  Calls Tryz.prog 58 #[(O s.p),I t] w fun e w'=>e=.returned (I (c.wh t))/\w'=w:=by
 have u:=h.lt;obtain⟨v,x⟩:=h.more;have l:=f.n4;by_cases g:t= -1
 ·subst g;have e:c.wh (-1)=c.wi:=by unfold Cf.wh zQ;rw[if_pos rfl]
  rw[e];clear h f e;go_enter Tryz.func58,Tryz.ntmps58;go_wp2_with fail;go_ret;exact⟨rfl,rfl⟩
 ·obtain⟨k,rfl⟩:∃k:Nat,t=k:=⟨t.toNat,by omega⟩;rw[vM];obtain⟨b,m,cap,d,j,a⟩:=h.tiers f;obtain⟨-,-,-,-,-,i,-⟩:=h.cells;rw[d]at i;obtain⟨-,o,-⟩:=a k (by omega);clear h f d a g;go_enter Tryz.func58,Tryz.ntmps58;go_wp2_with fail;go_ret;exact⟨rfl,rfl⟩
end
theorem zna{B:Nat}{s:Shp}{c:Cf}{e1 e2:Int}{o m2:MS}{Mp:World->Prop}{sn:Int}{ns:List Nm}{ks:List Tok}{us:List Int}{d1 d2:Bool}{i1 i2:Ids}(h:zJ w B s c Mp sn ns ks us)(hx:xK d1 w i1 c e1 o)(hy:xK d2 w i2 c e2 m2)(T:c.ok)(o1:MOk c e1 o)(o2:MOk c e2 m2)(bg:∀x∈ns,(0<=x.sr/\x.sr<4)/\0<=x.tm/\x.tm<=100000)(bI:ns.length<4398046511104):
  Calls Tryz.prog 24 #[(O i1.x),(O i2.x),(O s.p)] w fun e w'=>zpz c o m2 w w' e:=by
 have ai:=ze (JZ hx T ⟨(o1.seg.u0 T).1,by have:=(o1.seg.u0 T).2;omega⟩ (by have:=o1.seg.len400 T;omega));have b4:=fun W (e:E w.1.size w W)=>ze (JZ (hy.later e) T ⟨(o2.seg.u0 T).1,by have:=(o2.seg.u0 T).2;omega⟩ (by have:=o2.seg.len400 T;omega));have aG:=ze h;have HX:=ze hx;have HY:=ze hy;have bm:=o1.now;have bn:=o2.now;have aY:=fun W (e:E w.1.size w W)=>ze (zmW (hx.later e) o1.jobs (by have:=o1.t800 T;omega));have aZ:=fun W (e:E w.1.size w W)=>ze (zmW (hy.later e) o2.jobs (by have:=o2.t800 T;omega));have aX:Hid (ya c o m2->∀ts a0,jw o.TL ts->jw m2.TL a0->ts.length=a0.length/\∀(i:Nat) (x x':Tsk),ts[i]?=N x->a0[i]?=N x'->x.kd=x'.kd/\x.s=x'.s):=fun a ts a0 h1 h2=>zik h1 h2 (fun p hp=>(o1.td p hp).key) (fun p hp=>(o2.td p hp).key) o1.nt o2.nt a.job;have bo:=ze bg;have bY:=T.n4;have bv:=o1.t800 T;obtain⟨an,cn,bh⟩:=zR h.nrow;obtain⟨b,c3,cap,bb,bR,bp⟩:=h.tiers T;clear h hx hy o1 o2 bg bp;go_enter Tryz.func24,Tryz.ntmps24;go_wp2_with fail;refine(ud ai).mono ?_;rintro e V1 ⟨rfl,F⟩;have a7:E w.1.size w (V1.alloc (.cells (mZz c o e1) 37)):=F.alloc F.size _;have q1:=zq V1 (.cells (mZz c o e1) 37);have ay:V1.1.size<(V1.alloc (.cells (mZz c o e1) 37)).1.size:=by rw[zM];omega
 have m:=F.size;have ao:=b4 _ a7;have ar:=ze a7;have Q1:=ze q1;clear F a7 q1 ai b4;go_wp2_with fail;generalize(V1.alloc (.cells (mZz c o e1) 37))=Z1 at*;by_cases ad:o.now=m2.now/\zV o.L=zV m2.L/\xc o.L 1=xc m2.L 1/\xc o.L 2=xc m2.L 2/\xc o.L 3=xc m2.L 3/\(o.Gl.length:Int)=m2.Gl.length;case neg=>
  refine(ud ao).mono ?_;rintro e V2 ⟨rfl,a6⟩;have q1:=(a6.block _ ay).trans (ud Q1);have bd:=J ay a6.size;have aB:=(ud ar).trans (a6.mono (ud ar).size);have a5:=ze aB;obtain⟨y0,y1,y2,y3,y4,y5,y6,y7,-⟩:=zc q1;have yf:=fun j=>zw q1 j;have be:¬V1.1.size=V2.1.size:=by omega
  have aF:=ze q1;clear a6 ao q1 aB;have bq:¬o.now=m2.now\/¬zV o.L=zV m2.L\/¬xc o.L 1=xc m2.L 1\/¬xc o.L 2=xc m2.L 2\/¬xc o.L 3=xc m2.L 3\/¬(o.Gl.length:Int)=m2.Gl.length:=by
   by_cases g0:o.now=m2.now
   ·by_cases g1:zV o.L=zV m2.L
    ·by_cases g2:xc o.L 1=xc m2.L 1
     ·by_cases g3:xc o.L 2=xc m2.L 2
      ·by_cases g4:xc o.L 3=xc m2.L 3
       ·by_cases g5:(o.Gl.length:Int)=m2.Gl.length
        ·exact absurd ⟨g0,g1,g2,g3,g4,g5⟩ ad
        ·exact .inr (.inr (.inr (.inr (.inr (g5)))))
       ·exact .inr (.inr (.inr (.inr (.inl g4))))
      ·exact .inr (.inr (.inr (.inl g3)))
     ·exact .inr (.inr (.inl g2))
    ·exact .inr (.inl g1)
   ·exact .inl g0
  rcases bq with q|q|q|q|q|q
  ·have v:(o.now==m2.now)=false:=(by simpa using q);clear ad;go_wp2_with fail;go_ret;have u:=(ud a5).setCell (p:=(U V1.1.size 3)) m (I 0);exact⟨⟨_,rfl,u.alloc u.size (.cells (mZz c m2 0) 37),fun a=>absurd (a.now) q⟩⟩
  ·have v:(zV o.L==zV m2.L)=false:=(by simpa using q);clear ad;go_wp2_with fail;go_ret;have u:=(ud a5).setCell (p:=(U V1.1.size 3)) m (I 0);exact⟨⟨_,rfl,u.alloc u.size (.cells (mZz c m2 0) 37),fun a=>absurd (a.used) q⟩⟩
  ·have v:(xc o.L 1==xc m2.L 1)=false:=(by simpa using q);clear ad;go_wp2_with fail;go_ret;have u:=(ud a5).setCell (p:=(U V1.1.size 3)) m (I 0);exact⟨⟨_,rfl,u.alloc u.size (.cells (mZz c m2 0) 37),fun a=>absurd (a.count 1) q⟩⟩
  ·have v:(xc o.L 2==xc m2.L 2)=false:=(by simpa using q);clear ad;go_wp2_with fail;go_ret;have u:=(ud a5).setCell (p:=(U V1.1.size 3)) m (I 0);exact⟨⟨_,rfl,u.alloc u.size (.cells (mZz c m2 0) 37),fun a=>absurd (a.count 2) q⟩⟩
  ·have v:(xc o.L 3==xc m2.L 3)=false:=(by simpa using q);clear ad;go_wp2_with fail;go_ret;have u:=(ud a5).setCell (p:=(U V1.1.size 3)) m (I 0);exact⟨⟨_,rfl,u.alloc u.size (.cells (mZz c m2 0) 37),fun a=>absurd (a.count 3) q⟩⟩
  ·have v:((o.Gl.length:Int)==m2.Gl.length)=false:=(by simpa using q);clear ad;go_wp2_with fail;go_ret;have u:=(ud a5).setCell (p:=(U V1.1.size 3)) m (I 0);exact⟨⟨_,rfl,u.alloc u.size (.cells (mZz c m2 0) 37),fun a=>absurd (by have:=a.gl;omega) q⟩⟩
 obtain⟨g0,g1,g2,g3,g4,g5⟩:=ad;rw[<-g0,<-g1,<-g2,<-g3,<-g4,<-g5]at ao;have bO:=ze (show o.now=m2.now from g0);clear g0 g1 g2 g3 g4 g5;refine(ud ao).mono ?_;rintro e V2 ⟨rfl,a6⟩;have q1:=(a6.block _ ay).trans (ud Q1);have bd:=J ay a6.size;have aB:=(ud ar).trans (a6.mono (ud ar).size);have a5:=ze aB;obtain⟨y0,y1,y2,y3,y4,y5,y6,y7,-⟩:=zc q1;have yf:=fun j=>zw q1 j;have be:¬V1.1.size=V2.1.size:=by omega
 have aF:=ze q1;clear a6 ao q1 aB;go_wp2_with fail;have u:=(ud a5).setCell (p:=(U V1.1.size 3)) m (I 0);have HZ:=ze (u.alloc u.size (.cells (mZz c o 0) 37));clear u y0 y1 y2 y3 y4 y5 y6 y7 yf be aF ar Q1 a5 ay bd m;generalize((V2.setCell (U V1.1.size 3) (I 0)).alloc (.cells (mZz c o 0) 37))=Z at HZ ⊢;go_loopw [9,10,11,12,13,14,15] (fun y _ _ _ _ _ _ wr=>∃k:Nat,k<=ns.length/\y=I k/\E w.1.size w wr) (fun y _ _ _ _ _ _ _=>ns.length-(intOf y).toNat);case atStart=>exact⟨0,Nat.zero_le _,rfl,ud HZ⟩
 case round=>
  obtain⟨k,hk,rfl,hb⟩:=hrel;have u:=(ud aG).later hb;obtain⟨-,-,-,-,-,c8,-,b7,-,-⟩:=u.cells;rw[bh]at b7;rw[bb]at c8;have c0:=u.lt;have bX:(ns.length:Int)<4398046511104:=by omega
  have bZ:(c.n:Int)<=4:=by omega
  have HB:=ze hb;by_cases bt:k<ns.length
  ·obtain⟨x,hx⟩:=vr bt;obtain⟨aj,aS,c2⟩:=ud bo x (List.mem_of_getElem? hx);have aQ:=u.nrow;rw[bh]at aQ;obtain⟨g,bB,hv,_,bS,y0,y1,y2⟩:=zqN aQ hx;have bw:an=N (U g 0):=(by injection hv);subst bw;have bW:(k:Int)<ns.length:=(by omega);have ba:E w.1.size w (wr.alloc (.cells #[I x.sr,I x.tm,int i32 x.val] 87)):=hb.alloc hb.size _;have qn:=zq wr (.cells #[I x.sr,I x.tm,int i32 x.val] 87);have bA:=zd qn;have C:=ze ba;have QN:=ze qn;clear u hb aQ hv hx ba qn;go_wp2_with fail;generalize(wr.alloc (.cells #[I x.sr,I x.tm,int i32 x.val] 87))=X at*;generalize wr.1.size=nb at*;go_loopw [11,12,13,14,15] (fun y _ _ _ _ wv=>∃j:Nat,j<=c.n+1/\y=I ((j:Int)-1)/\E X.1.size X wv) (fun y _ _ _ _ _=>c.n+1-(intOf y+1).toNat);case atStart=>exact⟨0,Nat.zero_le _,rfl,S _ _⟩
   case round=>
    obtain⟨j,hj,rfl,hb⟩:=hrel;have aD:=(ud C).trans (hb.mono (ud C).size);have u:=(ud aG).later aD;obtain⟨-,-,-,-,-,d8,-⟩:=u.cells;rw[bb]at d8;have bK:=u.lt;have qn:=(hb.block _ bA).trans (ud QN);obtain⟨n0,n1,-⟩:=zc qn;have r:=zd qn;have aC:=ze hb;have ah:=ze u;have aM:=ze ((ud HX).later aD);have b5:=ze ((ud HY).later aD);clear u hb qn aD;by_cases bT:j<c.n+1
    ·have ht: -1<=(j:Int)-1/\(j:Int)-1<c.n:=(by omega);have bV:=ht.2;have bx:=T.wh ht.1 ht.2;have aE:0<=x.tm/c.wh ((j:Int)-1)/\x.tm/c.wh ((j:Int)-1)<=100000:=⟨Int.ediv_nonneg aS (by omega),by have:=Int.ediv_le_self (c.wh ((j:Int)-1)) aS;omega⟩;have bL:IntKind.i64.wrap (x.tm.tdiv (c.wh ((j:Int)-1)))=x.tm/c.wh ((j:Int)-1):=(by rw[Int.tdiv_eq_ediv_of_nonneg aS,IntKind.wrap_i64];omega);have bQ:¬c.wh ((j:Int)-1)=0:=(by omega);clear bx;go_wp2_with fail;have F:E wr.1.size wr (wr.alloc Qn).drew:=((S _ _).alloc (A _) _).drew;have a7:wr.1.size<(wr.alloc Qn).drew.1.size:=(by show wr.1.size<(wr.alloc Qn).1.size;rw[zM];omega);have av:(wr.alloc Qn).drew.1[wr.1.size]?=N (.cells #[I 0,I 0,int i32 0,int i32 0] 115 (0,0)):=zq wr _;have a2:=ze (Kw ((ud aM).later F) T bm ((j:Int)-1) x.sr (x.tm/c.wh ((j:Int)-1)) ht aj aE);have a1:=ze (Kw ((ud aM).later (S _ _).drew) T bm ((j:Int)-1) x.sr (x.tm/c.wh ((j:Int)-1)) ht aj aE);have aq:=ze (YK ((ud ah).later F) T ((j:Int)-1) ht.1 ht.2);have ap:=ze (YK ((ud ah).later (S _ _).drew) T ((j:Int)-1) ht.1 ht.2);generalize au:qY c o.now o.Gl o.L ((j:Int)-1) x.sr (x.tm/c.wh ((j:Int)-1))=Q at a2 a1;have aL:=ze au;have ae:=ze F;have al:=ze av;have bi:¬nb=wr.1.size:=(by omega);clear F av au;obtain⟨⟨Q1,Q2,Q3,Q4⟩,QE⟩:=Q;dsimp only at a2 a1;rename_i K1 hK1;refine(fun ac:∀(z:Nat) (Y:World),wr.1.size<=z->Y.1[z]?=N (zpH ⟨Q1,Q2,Q3,Q4⟩)->E wr.1.size wr Y->K1 ((?aa:Nat->Act) z) Y=>?main) ?T;case main=>
      have a9:=ze ac;clear ac;go_region_held3 (fun w'=>w'.cell? (U nb 0)=N (I x.sr)/\w'.cell? (U nb 1)=N (I x.tm)) (first|go_keep|exact⟨(YG (by assumption)).trans (by assumption),(YG (by assumption)).trans (by assumption)⟩) (first
       |(go_at_call 58;(first|(with_reducible refine(ud ap).mono ?_)|(with_reducible refine(ud aq).mono ?_));rintro e V0 ⟨rfl,rfl⟩)
       |(go_at_call 57;(with_reducible refine(ud a2).mono ?_);rintro e V ⟨rfl,m⟩;have d:E wr.1.size wr V:=(ud ae).trans (m.mono (ud ae).size);have a8:=(m.block wr.1.size a7).trans (ud al);obtain⟨z0,z1,z2,z3,-⟩:=zc a8;have zf:=fun j=>zw a8 j;have v0:=(d.cell (p:=(U nb 0)) r).trans n0;have v1:=(d.cell (p:=(U nb 1)) r).trans n1;have vq:=J r d.size;have G:=ze d;have aO:=ze a8;clear d m a8)
       |(go_at_call 57;(with_reducible refine(ud a1).mono ?_);rintro e V ⟨rfl,m⟩;have d:E wr.1.size wr V:=zmH m;have v0:=(d.cell (p:=(U nb 0)) r).trans n0;have v1:=(d.cell (p:=(U nb 1)) r).trans n1;have vq:=J r d.size;have bu:¬nb=V.1.size:=(by omega);have G:=ze d;clear d m))
      all_goals(first
       |(have hP:=(ud G).alloc (ud G).size (.cells #[I Q1,I Q2,int i32 Q3,int i32 Q4] 115);have M:=zq V (.cells #[I Q1,I Q2,int i32 Q3,int i32 Q4] 115);have hL:=(ud G).size;generalize(V.alloc (.cells #[I Q1,I Q2,int i32 Q3,int i32 Q4] 115))=Y at hP M ⊢;generalize V.1.size=z at M hL ⊢;exact ud a9 z Y hL M hP)
       |(have hP:=zcJ (ud G) (A wr.1.size) (I Q1) (I Q2) (int i32 Q3) (int i32 Q4);have M:=KT (ud aO) (I Q1) (I Q2) (int i32 Q3) (int i32 Q4);have hL:=A wr.1.size;generalize((((V.setCell (U wr.1.size 0) (I Q1)).setCell (U wr.1.size 1) (I Q2)).setCell (U wr.1.size 2) (int i32 Q3)).setCell (U wr.1.size 3) (int i32 Q4))=Y at hP M ⊢;generalize bl:wr.1.size=z at M hL ⊢;exact ud a9 z Y (by omega) M hP))
     case T=>
      intro z Y bP M R;refine hK1 _ _ ?_;clear a1 a2 ae al a7 ap aq hK1;have n0:=(R.cell (p:=(U nb 0)) r).trans n0;have n1:=(R.cell (p:=(U nb 1)) r).trans n1;have r:=J r R.size;have aN:=ze ((ud b5).later R);have ah:=ze ((ud ah).later R);have aI:=ze ((ud aC).trans (R.mono (ud aC).size));have bz:=zd M;have b3:=ze M;clear R M aM b5 aC;go_wp2_with fail;have F:E Y.1.size Y (Y.alloc Qn).drew:=((S _ _).alloc (A _) _).drew;have a7:Y.1.size<(Y.alloc Qn).drew.1.size:=(by show Y.1.size<(Y.alloc Qn).1.size;rw[zM];omega);have av:(Y.alloc Qn).drew.1[Y.1.size]?=N (.cells #[I 0,I 0,int i32 0,int i32 0] 115 (0,0)):=zq Y _;have a2:=ze (Kw ((ud aN).later F) T bn ((j:Int)-1) x.sr (x.tm/c.wh ((j:Int)-1)) ht aj aE);have a1:=ze (Kw ((ud aN).later (S _ _).drew) T bn ((j:Int)-1) x.sr (x.tm/c.wh ((j:Int)-1)) ht aj aE);have aq:=ze (YK ((ud ah).later F) T ((j:Int)-1) ht.1 ht.2);have ap:=ze (YK ((ud ah).later (S _ _).drew) T ((j:Int)-1) ht.1 ht.2);generalize au:qY c m2.now m2.Gl m2.L ((j:Int)-1) x.sr (x.tm/c.wh ((j:Int)-1))=P at a2 a1;have aK:=ze au;have ae:=ze F;have al:=ze av;have bi:¬nb=Y.1.size:=(by omega);clear F av au;obtain⟨⟨P1,P2,P3,P4⟩,PE⟩:=P;dsimp only at a2 a1;rename_i K2 hK2;refine(fun ac:∀(z:Nat) (Y2:World),Y.1.size<=z->Y2.1[z]?=N (zpH ⟨P1,P2,P3,P4⟩)->E Y.1.size Y Y2->K2 ((?ab:Nat->Act) z) Y2=>?main2) ?hc2;case main2=>
       have a9:=ze ac;clear ac;go_region_held3 (fun w'=>w'.cell? (U nb 0)=N (I x.sr)/\w'.cell? (U nb 1)=N (I x.tm)) (first|go_keep|exact⟨(YG (by assumption)).trans (by assumption),(YG (by assumption)).trans (by assumption)⟩) (first
        |(go_at_call 58;(first|(with_reducible refine(ud ap).mono ?_)|(with_reducible refine(ud aq).mono ?_));rintro e V0 ⟨rfl,rfl⟩)
        |(go_at_call 57;(with_reducible refine(ud a2).mono ?_);rintro e V ⟨rfl,m⟩;have d:E Y.1.size Y V:=(ud ae).trans (m.mono (ud ae).size);have a8:=(m.block Y.1.size a7).trans (ud al);obtain⟨z0,z1,z2,z3,-⟩:=zc a8;have zf:=fun j=>zw a8 j;have v0:=(d.cell (p:=(U nb 0)) r).trans n0;have v1:=(d.cell (p:=(U nb 1)) r).trans n1;have vq:=J r d.size;have G:=ze d;have aO:=ze a8;clear d m a8)
        |(go_at_call 57;(with_reducible refine(ud a1).mono ?_);rintro e V ⟨rfl,m⟩;have d:E Y.1.size Y V:=zmH m;have v0:=(d.cell (p:=(U nb 0)) r).trans n0;have v1:=(d.cell (p:=(U nb 1)) r).trans n1;have vq:=J r d.size;have bu:¬nb=V.1.size:=(by omega);have G:=ze d;clear d m))
       all_goals(first
        |(have hP:=(ud G).alloc (ud G).size (.cells #[I P1,I P2,int i32 P3,int i32 P4] 115);have M:=zq V (.cells #[I P1,I P2,int i32 P3,int i32 P4] 115);have hL:=(ud G).size;generalize(V.alloc (.cells #[I P1,I P2,int i32 P3,int i32 P4] 115))=Y2 at hP M ⊢;generalize V.1.size=z at M hL ⊢;exact ud a9 z Y2 hL M hP)
        |(have hP:=zcJ (ud G) (A Y.1.size) (I P1) (I P2) (int i32 P3) (int i32 P4);have M:=KT (ud aO) (I P1) (I P2) (int i32 P3) (int i32 P4);have hL:=A Y.1.size;generalize((((V.setCell (U Y.1.size 0) (I P1)).setCell (U Y.1.size 1) (I P2)).setCell (U Y.1.size 2) (int i32 P3)).setCell (U Y.1.size 3) (int i32 P4))=Y2 at hP M ⊢;generalize bl:Y.1.size=z at M hL ⊢;exact ud a9 z Y2 (by omega) M hP))
      case hc2=>
       intro z2 Y2 bE M R;refine hK2 _ _ ?_;clear a1 a2 ae al a7 ap aq hK2;have r1:=(R.block _ bz).trans (ud b3);obtain⟨x0,x1,x2,x3,-⟩:=zc r1;obtain⟨y0,y1,y2,y3,-⟩:=zc M;have bM:=zd r1;have bN:=zd M;have bl:¬z=z2:=(by omega);have ak:=ze ((ud aI).trans (R.mono (ud aI).size));clear r1 M R n0 n1 b3 aI aN ah;have am:Hid (ya c o m2->(Q1=P1/\Q2=P2/\Q3=P3/\Q4=P4)/\QE=PE):=fun a=>by
        have h9:=a.query ((j:Int)-1) x.sr (x.tm/c.wh ((j:Int)-1));rw[ud aL,ud aK]at h9;simpa using h9
       by_cases q:Q1=P1;case neg=>
        have v:(Q1==P1)=false:=by simpa using q
        --B0
        go_wp2_with fail;all_goals(try go_ret)
        all_goals exact⟨⟨_,rfl,(ud C).trans ((ud ak).mono (ud C).size),fun a=>absurd (ud am a).1.1 q⟩⟩
       subst q;by_cases q:Q2=P2;case neg=>
        have v:(Q2==P2)=false:=by simpa using q
        --B1
        go_wp2_with fail;all_goals(try go_ret)
        all_goals exact⟨⟨_,rfl,(ud C).trans ((ud ak).mono (ud C).size),fun a=>absurd (ud am a).1.2.1 q⟩⟩
       subst q;by_cases q:Q3=P3;case neg=>
        have v:(Q3==P3)=false:=by simpa using q
        --B2
        go_wp2_with fail;all_goals(try go_ret)
        all_goals exact⟨⟨_,rfl,(ud C).trans ((ud ak).mono (ud C).size),fun a=>absurd (ud am a).1.2.2.1 q⟩⟩
       subst q;by_cases q:Q4=P4;case neg=>
        have v:(Q4==P4)=false:=by simpa using q
        --B3
        go_wp2_with fail;all_goals(try go_ret)
        all_goals exact⟨⟨_,rfl,(ud C).trans ((ud ak).mono (ud C).size),fun a=>absurd (ud am a).1.2.2.2 q⟩⟩
       subst q;by_cases q:QE=PE;case neg=>
        have v:(QE !=PE)=true:=(by simpa using q);have HD:=ze q;clear q
        --B4
        go_wp2_with fail;all_goals(try go_ret)
        all_goals exact⟨⟨_,rfl,(ud C).trans ((ud ak).mono (ud C).size),fun a=>absurd (ud am a).2 (ud HD)⟩⟩
       subst q;go_wp2_with fail;exact⟨⟨j+1,by omega,by go_num,ud ak⟩,by simp[intOf];omega⟩
    ·have bU:(j:Int)-1=c.n:=(by omega);have bf:decide ((j:Int)-1<c.n)=false:=(by simp;omega);go_wp2_with fail;go_roundw;case rel=>exact⟨k+1,by omega,by go_num,(ud C).trans ((ud aC).mono (ud C).size)⟩
     case measure=>simp[intOf];omega
  ·have bs:k=ns.length:=(by omega);subst bs;have bf:decide ((ns.length:Int)<ns.length)=false:=(by simp);clear u hb;go_wp2_with fail;have aU:=aY _ (ud HB);refine(ud aU).mono ?_;rintro e V3 ⟨ts,a3,bC,hJ,rfl,aH,b9⟩;have aT:=(ud HB).trans (b9.mono (ud HB).size);have aV:=aZ _ aT;have b0:=ze aH;have HJ:=ze hJ;have b6:=ze aT;have c1:ts.length<=800:=(by rw[hJ.len];exact bv);clear b9 aT aH hJ aY aZ aU c8 b7;go_wp2_with fail;refine(ud aV).mono ?_;rintro e V4 ⟨a0,a4,bD,b8,rfl,aA,aP⟩;have aW:=ze b8;have b1:=ze (zh (ud b0) (zi.of_below (f:=fun _=>False) aP) (fun _ _ e=>e));have b2:=ze aA;have H:=ze ((ud b6).trans (aP.mono (ud b6).size));have ag:Hid (ya c o m2->ts.length=a0.length/\∀(i:Nat) (x x':Tsk),ts[i]?=N x->a0[i]?=N x'->x.kd=x'.kd/\x.s=x'.s):=fun a=>ud aX a ts a0 (ud HJ) (ud aW);clear aP aA b8 aV HJ aX b0 aW;by_cases az:ts.length=a0.length;case neg=>
    have v:((ts.length:Int) !=(a0.length:Int))=true:=(by simp;omega);have aJ:=ze az;clear az;go_wp2_with fail;go_ret;exact⟨⟨_,rfl,ud H,fun a=>absurd (ud ag a).1 (ud aJ)⟩⟩
   rw[<-az];have aJ:=ze az;clear az;have bJ:(ts.length:Int)<=800:=(by omega);go_wp2_with fail;go_loopw [18] (fun y wr=>∃i:Nat,i<=ts.length/\y=I i/\E V4.1.size V4 wr) (fun y _=>ts.length-(intOf y).toNat);case atStart=>exact⟨0,Nat.zero_le _,rfl,S _ _⟩
   case round=>
    obtain⟨i,hi,rfl,hb⟩:=hrel;by_cases bc:i<ts.length
    ·have bH:(i:Int)<ts.length:=(by omega);obtain⟨x,hx⟩:=vr bc;obtain⟨x',aR⟩:=vr (l:=a0) (i:=i) (by rw[<-ud aJ];exact bc);have ai:Hid (ya c o m2->x.kd=x'.kd/\x.s=x'.s):=fun a=>(ud ag a).2 i x x' hx aR;obtain⟨ga,ca,bj,bF,aw⟩:=zmT (zh (ud b1) (zi.of_below (f:=fun _=>False) hb) (fun _ _ e=>e)) hx;obtain⟨gb,cb,bk,bG,ax⟩:=zmT (zh (ud b2) (zi.of_below (f:=fun _=>False) hb) (fun _ _ e=>e)) aR;have ea:a3=N (U ga 0):=(by injection bj);have eb:a4=N (U gb 0):=(by injection bk);subst ea;subst eb;have p0:Cz wr ga (i*11) (I x.kd):=aw 0 (by omega);have p1:Cz wr ga (i*11+1) (I x.s.t):=aw 1 (by omega);have p2:Cz wr ga (i*11+2) (I x.s.sr):=aw 2 (by omega);have p3:Cz wr ga (i*11+3) (I x.s.wn):=aw 3 (by omega);have q0:Cz wr gb (i*11) (I x'.kd):=ax 0 (by omega);have q1:Cz wr gb (i*11+1) (I x'.s.t):=ax 1 (by omega);have q2:Cz wr gb (i*11+2) (I x'.s.sr):=ax 2 (by omega);have q3:Cz wr gb (i*11+3) (I x'.s.wn):=ax 3 (by omega);have af:=ze hb;clear hb aw ax bj bk hx aR ag b1 b2;by_cases d0:x.kd=x'.kd;case neg=>
      have v:(x.kd !=x'.kd)=true:=(by simpa using d0);have HD:=ze d0;clear d0;go_wp2_with fail;refine kF (by kernel_rfl) (by kernel_rfl) ?_;iterate 12 ((with_reducible refine wpStill_step (fun K D=>?_));go_simp;(with_reducible refine D _ ?_);clear D K)
      iterate 11 ((with_reducible refine yN (by kernel_rfl) ?_);(try simp only[Act.put,List.setIfInBounds_toArray,List.set_cons_zero,List.set_cons_succ]))
      iterate 2 ((with_reducible refine wpStill_step (fun K D=>?_));go_simp;(with_reducible refine D _ ?_);clear D K)
      iterate 11 ((with_reducible refine yN (by kernel_rfl) ?_);(try simp only[Act.put,List.setIfInBounds_toArray,List.set_cons_zero,List.set_cons_succ]))
      iterate 2 ((with_reducible refine wpStill_step (fun K D=>?_));go_simp;(with_reducible refine D _ ?_);clear D K)
      iterate 11 ((with_reducible refine yN (by kernel_rfl) ?_);(try simp only[Act.put,List.setIfInBounds_toArray,List.set_cons_zero,List.set_cons_succ]))
      iterate 1 ((with_reducible refine wpStill_step (fun K D=>?_));go_simp;(with_reducible refine D _ ?_);clear D K)
      refine wpStill_nil ?_;go_wp2_with fail;go_ret;exact⟨⟨_,rfl,(ud H).trans (((ud af).drew).mono (ud H).size),fun a=>absurd (ud ai a).1 (ud HD)⟩⟩
     rw[<-d0]at q0;clear d0;by_cases d1:x.s.t=x'.s.t;case neg=>
      have v:(x.s.t !=x'.s.t)=true:=(by simpa using d1);have HD:=ze d1;clear d1;go_wp2_with fail;refine kF (by kernel_rfl) (by kernel_rfl) ?_;iterate 25 ((with_reducible refine wpStill_step (fun K D=>?_));go_simp;(with_reducible refine D _ ?_);clear D K)
      iterate 11 ((with_reducible refine yN (by kernel_rfl) ?_);(try simp only[Act.put,List.setIfInBounds_toArray,List.set_cons_zero,List.set_cons_succ]))
      iterate 2 ((with_reducible refine wpStill_step (fun K D=>?_));go_simp;(with_reducible refine D _ ?_);clear D K)
      iterate 11 ((with_reducible refine yN (by kernel_rfl) ?_);(try simp only[Act.put,List.setIfInBounds_toArray,List.set_cons_zero,List.set_cons_succ]))
      iterate 1 ((with_reducible refine wpStill_step (fun K D=>?_));go_simp;(with_reducible refine D _ ?_);clear D K)
      refine wpStill_nil ?_;go_wp2_with fail;go_ret;exact⟨⟨_,rfl,(ud H).trans (((ud af).drew).mono (ud H).size),fun a=>absurd (by rw[(ud ai a).2]) (ud HD)⟩⟩
     rw[<-d1]at q1;clear d1;by_cases d2:x.s.sr=x'.s.sr;case neg=>
      have v:(x.s.sr !=x'.s.sr)=true:=(by simpa using d2);have HD:=ze d2;clear d2;go_wp2_with fail;refine kF (by kernel_rfl) (by kernel_rfl) ?_;iterate 38 ((with_reducible refine wpStill_step (fun K D=>?_));go_simp;(with_reducible refine D _ ?_);clear D K)
      iterate 11 ((with_reducible refine yN (by kernel_rfl) ?_);(try simp only[Act.put,List.setIfInBounds_toArray,List.set_cons_zero,List.set_cons_succ]))
      iterate 1 ((with_reducible refine wpStill_step (fun K D=>?_));go_simp;(with_reducible refine D _ ?_);clear D K)
      refine wpStill_nil ?_;go_wp2_with fail;go_ret;exact⟨⟨_,rfl,(ud H).trans (((ud af).drew).mono (ud H).size),fun a=>absurd (by rw[(ud ai a).2]) (ud HD)⟩⟩
     rw[<-d2]at q2;clear d2;by_cases d3:x.s.wn=x'.s.wn;case neg=>
      have v:(x.s.wn !=x'.s.wn)=true:=(by simpa using d3);have HD:=ze d3;clear d3;go_wp2_with fail;refine kF (by kernel_rfl) (by kernel_rfl) ?_;iterate 50 ((with_reducible refine wpStill_step (fun K D=>?_));go_simp;(with_reducible refine D _ ?_);clear D K)
      refine wpStill_nil ?_;go_wp2_with fail;go_ret;exact⟨⟨_,rfl,(ud H).trans (((ud af).drew).mono (ud H).size),fun a=>absurd (by rw[(ud ai a).2]) (ud HD)⟩⟩
     rw[<-d3]at q3;clear d3;go_wp2_with fail;go_still (by kernel_rfl);go_wp2_with fail;go_roundw;case rel=>exact⟨i+1,by omega,by go_num,(ud af).drew⟩
     case measure=>simp[intOf];omega
    ·have br:i=ts.length:=(by omega);subst br;have bf:decide ((ts.length:Int)<ts.length)=false:=(by simp);have af:=ze hb;clear hb;go_wp2_with fail;go_ret;exact⟨⟨_,rfl,(ud H).trans ((ud af).mono (ud H).size),fun _=>rfl⟩⟩
end Go.Proofs.YtndhpgciopcncaaGreatDoor
