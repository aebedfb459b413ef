import Derived.Test.YtndhpgciopcncaaGreatDoorXJbs0
open Nat renaming lt_of_lt_of_le → J
open Option renaming some → K
open Go.RowKit.Below renaming refl → E
open Nat renaming le_refl → Q
open Go.RowKit renaming Below → Z
set_option linter.unusedVariables false
set_option maxRecDepth 8000
set_option maxHeartbeats 20000000
open Go.Proofs.Tryz
namespace Go.Proofs.YtndhpgciopcncaaGreatDoor
open Go.RowKit Go.Maps Go.Shelf
variable {c:Cf} {i:Ids} {ep:Int} {m':MS} {B g p:Nat} {m:RM} {jb x:Tk} {gv kv nv pv tv:Value} {V X w:World}
theorem zR.addPick(h:zR B w p m tv nv pv gv kv)(n:Int):zR B (w.setCell (U p 13) (I n)) p {m with picks:=n} tv nv pv gv kv/\zj (fun k=>k=p) w (w.setCell (U p 13) (I n)):=by
 have a:zj (fun k=>k=p) w (w.setCell (U p 13) (I n)):=zk (zj.refl _ _) rfl;exact⟨⟨xq (i:=13) h.head (I n),h.base,zi h.trow a (zv h.head h.trow (by decide)),zi h.nrow a (zv h.head h.nrow (by decide)),zi h.prow a (zv h.head h.prow (by decide)),zi h.grow a (zv h.head h.grow (by decide)),zi h.krow a (zv h.head h.krow (by decide))⟩,a⟩
theorem zpu{cap:Nat}{l:List Tk}(h:zR B w p {m with tg:=l} tv nv pv gv (.slice (K (U g 0)) l.length cap)){i:Nat}(n:l[i]?=K x)(ep num slot:Int):
  zR B (((w.setCell (U g (i*11+7)) (I ep)).setCell (U g (i*11+7+1)) (I num)).setCell (U g (i*11+9)) (I slot)).drew p {m with tg:=l.set i {x with ep:=ep,num:=num,slot:=slot}} tv nv pv gv (.slice (K (U g 0)) (l.set i {x with ep:=ep,num:=num,slot:=slot}).length cap)/\(l.set i {x with ep:=ep,num:=num,slot:=slot})[i]?=K {x with ep:=ep,num:=num,slot:=slot}/\zj (fun k=>k=g) w (((w.setCell (U g (i*11+7)) (I ep)).setCell (U g (i*11+7+1)) (I num)).setCell (U g (i*11+9)) (I slot)).drew:=by
 obtain⟨a1,b,d⟩:=h.putTask' n 7 {x with ep:=ep} (I ep) (by omega) rfl;obtain⟨a2,c,f⟩:=a1.putTask' b 8 {x with ep:=ep,num:=num} (I num) (by omega) rfl;obtain⟨a3,a,j⟩:=a2.putTask' c 9 {x with ep:=ep,num:=num,slot:=slot} (I slot) (by omega) rfl;have a4:=a3.later (E _ _).drew;simp only[List.set_set]at a4 a;exact⟨a4,a,((d.trans f (fun _ _ e=>e)).trans j (fun _ _ e=>e)).drew⟩
theorem QU{size n:Nat}{e:TypeId}{v:Value}{xs:List Value}(h:w.ownsRow B e size v n xs):∀k,v.ownBlock=K k->k<w.1.size:=fun k c=>by
 obtain⟨a,b⟩:=zG h c;exact zd b
theorem zR.rlt(h:zR B w p m tv nv pv gv kv):∀k,jI p tv nv pv gv kv k->k<w.1.size:=fun k a=>by
 rcases a with rfl|e|e|e|e|e
 ·exact h.lt
 ·exact QU h.trow k e
 ·exact QU h.nrow k e
 ·exact QU h.prow k e
 ·exact QU h.grow k e
 ·exact QU h.krow k e
theorem zlQ{wr j l c T:World}{m':RM}{b:Value}(h:zR B w p m tv nv pv gv kv)(n:kv.ownBlock=K g)(i:∀k,b.ownBlock=K k->kv.ownBlock=K k)(r:B_ w wr)(s:zj (fun k=>k=p) wr j)(t:zj (fun k=>k=g) j l)(u:zj (fun k=>k=g) l c)(q:zR B c p m' tv nv pv gv b)(hv:B_ c V)(o:zj (fun k=>k=w.1.size) V T):
  zR B T p m' tv nv pv gv b/\zj (fun k=>k=p\/kv.ownBlock=K k) w T:=by
 refine⟨(q.later hv).kept o (fun k d e=>?_),?_⟩
 ·have:jI p tv nv pv gv kv k:=by
   rcases d with a|a|a|a|a|a
   ·exact .inl a
   ·exact .inr (.inl a)
   ·exact .inr (.inr (.inl a))
   ·exact .inr (.inr (.inr (.inl a)))
   ·exact .inr (.inr (.inr (.inr (.inl a))))
   ·exact .inr (.inr (.inr (.inr (.inr (i k a)))))
  have:=h.rlt k this;omega
 ·have a1:zj (fun k=>k=p\/kv.ownBlock=K k) w wr:=zj.of_below r;have a2:=a1.trans s (fun k _ e=> .inl e);have a3:=a2.trans t (fun k _ e=> .inr (by rw[e];exact n));have a4:=a3.trans u (fun k _ e=> .inr (by rw[e];exact n));have a5:=a4.trans (zj.of_below (f:=fun _=>False) hv) (fun k _ e=>e.elim);exact a5.trans o (fun k d e=>absurd d (by omega))
def zhG:Option Nat->Int
 |none=> -1
 |some j=>j
theorem KU{slot:Int}(a:¬(slot<0\/m.c.s<=slot))(d:x∈m.tg)(b:x.slot=slot):m.pick slot=(m,zaU,6):=by
 unfold RM.pick;rw[if_neg a,if_pos];exact List.any_eq_true.2 ⟨x,d,by simp[b]⟩
theorem zoh{m:RM}{slot:Int}(b:¬(slot<0\/m.c.s<=slot))(d:∀j,j<m.tg.length->∀x,m.tg[j]?=K x->¬x.slot=slot):m.pick slot=match m.bestI m.tg.length with
 |none=>(m,zaU,7)
 |some j=>({m with picks:=m.picks+1,tg:=m.tg.modify j (Tk.leased m.epoch (m.picks+1) slot (m.now+m.c.le))},Tk.leased m.epoch (m.picks+1) slot (m.now+m.c.le) ((m.tg[j]?).getD zaU),0):=by
 have hn:¬m.tg.any (fun x=>x.slot==slot)=true:=fun h=>by
  obtain⟨x,g,f⟩:=List.any_eq_true.1 h;obtain⟨j,a,e⟩:=List.getElem_of_mem g;exact d j a x (by rw[List.getElem?_eq_getElem a,e]) (by simpa using f)
 unfold RM.pick
 rw[if_neg b,if_neg hn]
 rfl
theorem zjI(h:zR B w p m tv nv pv gv kv)(hc:m.c.ok)(bs:m.nu.length<=100000000)(bF:m.gone.length<=1000000000)(bK:m.tg.length<=1000000000)(bt:∀x∈m.nu,x.ok)(hu:m.used<=1000000000000000000)(ax:0<=m.now/\m.now<=100000)(aZ:∀x∈m.tg,zjT m.c x.s/\0<=x.si/\x.si<=m.now)(bQ:0<=m.picks/\m.picks<=1000000000000000)(slot:Int):
  Calls prog 213 #[(O p),I slot] w fun e w'=>e=.returned (.tuple #[tkA (m.pick slot).2.1,I (m.pick slot).2.2])/\zR B w' p (m.pick slot).1 tv nv pv gv kv/\zj (fun k=>k=p\/kv.ownBlock=K k) w w':=by
 obtain⟨ak,ck,br⟩:=zq h.krow;subst br;have d:B_ w (w.alloc Zj):=(E _ _).alloc (Q _) _;have HQ:=ze (zo w Zj);have hX:=h.later d;have aQ:=ze (zcs hX hc bs (by omega) bt hu);obtain⟨c0,-⟩:=hX.conf;have r:=hX.lt;have HX:=ze hX;have ah:=ze d;have aH:=zd HQ;have H:=ze h;clear h hX d;go_in;by_cases h1:slot<0
 ·have HP:Hid (m.pick slot=(m,zaU,6)):=by show m.pick slot=_;unfold RM.pick;rw[if_pos (.inl h1)]
  rw[ud HP];go_wp2_with fail;refine bodyPost_ret (zn results213 _ _ w.1.size _ _ _ _ _ rfl rfl HQ underlying51 rfl (by kernel_rfl)) rfl ?_;exact⟨rfl,HX,zj.of_below ah⟩
 by_cases h2:m.c.s<=slot
 ·have HP:Hid (m.pick slot=(m,zaU,6)):=by show m.pick slot=_;unfold RM.pick;rw[if_pos (.inr h2)]
  rw[ud HP];have aW:decide (slot<0)=false:=by simp;omega
  go_wp2_with fail;refine bodyPost_ret (zn results213 _ _ w.1.size _ _ _ _ _ rfl rfl HQ underlying51 rfl (by kernel_rfl)) rfl ?_;exact⟨rfl,HX,zj.of_below ah⟩
 have aW:decide (slot<0)=false:=by simp;omega
 have bn:decide (m.c.s<=slot)=false:=by simp;omega
 have aA:Hid (¬(slot<0\/m.c.s<=slot)):=by show¬_;omega
 go_wp2_with fail;refine aQ.mono ?_;rintro e w1 ⟨rfl,am⟩;have ap:=ze ((am.block _ aH).trans HQ);have an:=J aH am.size;have aT:=ze (HX.later am);have ag:=ze (ah.trans (am.mono ah.size));clear am aQ HQ HX ah aH c0 r;go_wp2_with fail;go_loopw [8,9] (fun y _ wr=>∃(k:Nat),k<=m.tg.length/\y=I k/\(∀j,j<k->∀x,m.tg[j]?=K x->¬x.slot=slot)/\B_ w1 wr) (fun y _ _=>m.tg.length-(intOf y).toNat);case atStart=>exact⟨0,Nat.zero_le _,rfl,fun j hj=>absurd hj (Nat.not_lt_zero _),E _ _⟩
 case round=>
  obtain⟨k,hk,rfl,ha,hb⟩:=hrel;have HA:=ze ha;have HB:=ze hb;have A:=aT.later hb;obtain⟨-,-,-,-,N,-,-⟩:=A.rest;have r:=A.lt;have aB:=ze ((hb.block _ an).trans ap);clear ha;by_cases aG:k<m.tg.length
  ·obtain⟨x,P⟩:=xC aG;obtain⟨g,L,hv,_,ae,y0,y1,y2,y3,y4,y5,y6,y7,y8,y9,F⟩:=X9 A.krow P;injection hv with a M v;subst a v;have HX:=ze P;have bL:(k:Int)<m.tg.length:=(by omega);have q1:=zo wr (.cells (yZz x) 294);obtain⟨-,-,-,-,-,-,-,-,-,z9,-⟩:=zc q1;have zl:=zd q1;have q:=ze (hb.alloc hb.size (.cells (yZz x) 294));clear P A M hb q1;by_cases hs:x.slot=slot
   ·have HP:=ze (KU aA (List.mem_of_getElem? HX) hs);subst hs;have ar:=ze (((E wr.1.size wr).alloc (Q _) (.cells (yZz x) 294)|>.block _ (J an HB.size)).trans aB);have HW:=ze (ag.trans (q.mono ag.size));obtain⟨b0,b1,b2,b3,b4,b5,b6,b7,b8,b9,aU⟩:=z11 ar;have bf:=fun j=>zI ar j;have bl:=zd ar;go_wp2_with fail;have hf:=XG ar (I 0) (I 0) (I 0) (I 0) (I 0) (I 0) (I 0) (I 0) (I 0) (I 0) (I 0);refine bodyPost_ret (zn results213 _ _ w.1.size _ _ _ _ _ rfl rfl hf underlying51 rfl (by kernel_rfl)) rfl ?_;have kT:=HW.trans ((jk (w:=(wr.alloc (.cells (yZz x) 294))) (g:=w.1.size) (I 0) (I 0) (I 0) (I 0) (I 0) (I 0) (I 0) (I 0) (I 0) (I 0) (I 0)).below HW.size (fun k e=>by omega));rw[ud HP];exact⟨rfl,H.later kT,zj.of_below kT⟩
   ·have aP:Hid (∀j,j<k+1->∀y,m.tg[j]?=K y->¬y.slot=slot):=fun j hj y aF=>by
     by_cases e:j=k
     ·subst e;rw[ud HX]at aF;cases aF;exact hs
     ·exact ud HA j (by omega) y aF
    go_wp2_with fail;go_roundw;case rel=>exact⟨k+1,by omega,by go_num,aP,q⟩
    case measure=>simp[intOf];omega
  ·have ac:=ze (zoh aA (fun j hj x P=>ud HA j (by omega) x P));have ay:=ze (ag.trans (hb.mono ag.size));have bm:=ze A;have bT:=ay.size;clear HA HB A hb aT ag ap an aA aW bn hk;obtain⟨w2,rfl⟩:∃w2,w2=wr:=⟨_,rfl⟩;go_wp2_with fail;clear N r;go_loopw [7,10,11,12] (fun z y _ _ W=>∃(k:Nat),k<=m.tg.length/\y=I k/\z=I (zhG (m.bestI k))/\B_ w2 W) (fun _ y _ _ _=>m.tg.length-(intOf y).toNat);case atStart=>exact⟨0,Nat.zero_le _,rfl,rfl,E _ _⟩
   case round=>
    obtain⟨i,hi,rfl,rfl,X⟩:=hrel;have A:=bm.later X;obtain⟨r7,-,-,-,N,-,-⟩:=A.rest;have r:=A.lt;have aJ:=ze X;have R:=ze (ZI m i);have ao:=fun j=>ze (XW m i (j:=j));by_cases aG:i<m.tg.length
    ·obtain⟨x,P⟩:=xC aG;obtain⟨g,L,hv,_,ae,y0,y1,y2,y3,y4,y5,y6,y7,y8,y9,F⟩:=X9 A.krow P;injection hv with a M v;subst a v;have HX:=ze P;have aR:=ze (aZ x (List.mem_of_getElem? P));have bH:(i:Int)<m.tg.length:=(by omega);have q1:=zo wr (.cells (yZz x) 294);obtain⟨z0,z1,z2,z3,z4,z5,z6,z7,z8,z9,bA⟩:=xQ (f:=x) q1;have zl:=zd q1;have d:=(E wr.1.size wr).alloc (Q _) (.cells (yZz x) 294);have bj:=ze (A.later d);have v7:=(d.cell (p:=(U p 7)) r).trans r7;have bz:=(d.cell (p:=(U p 11)) r).trans N;have vp:=J r d.size;have q:=ze (aJ.trans (d.mono aJ.size));have ap:=ze q1;clear P M q1 A X d;generalize af:m.bestI i=ob at*;by_cases hs:0<=x.slot
     ·have HB:=ze (K0 (b:=ob) HX (by unfold RM.freeT;simp;omega));go_wp2_with fail;generalize(wr.alloc (.cells (yZz x) 294))=Y at*;have D:Nonempty (zm Y.1.size Y):=zm.some _ _;have C:=fun(u:zm Y.1.size Y) b o h=>u.cell b o h;refine zh Y.1.size (by kernel_rfl) (by kernel_rfl) ?_;repeat(go_big_quiet_step (fail))
      refine wpQuiet_nil ?_;rintro⟨V,n⟩;dsimp only;clear C D;have G:=ze (q.trans (n.mono q.size));clear n;go_wp2_with fail;go_roundw;case rel=>exact⟨i+1,by omega,by go_num,by rw[ud R,ud HB],ud G⟩
      case measure=>simp[intOf];omega
     ·have bS:decide (0<=x.slot)=false:=(by simp;omega);by_cases hr:m.now<x.rest
      ·have HB:=ze (K0 (b:=ob) HX (by unfold RM.freeT;simp;omega));go_wp2_with fail;generalize(wr.alloc (.cells (yZz x) 294))=Y at*;have D:Nonempty (zm Y.1.size Y):=zm.some _ _;have C:=fun(u:zm Y.1.size Y) b o h=>u.cell b o h;refine zh Y.1.size (by kernel_rfl) (by kernel_rfl) ?_;repeat(go_big_quiet_step (fail))
       refine wpQuiet_nil ?_;rintro⟨V,n⟩;dsimp only;clear C D;have G:=ze (q.trans (n.mono q.size));clear n;go_wp2_with fail;go_roundw;case rel=>exact⟨i+1,by omega,by go_num,by rw[ud R,ud HB],ud G⟩
       case measure=>simp[intOf];omega
      ·have bR:decide (m.now<x.rest)=false:=(by simp;omega);have aK:Hid (m.freeT x=true):=(by show m.freeT x=true;unfold RM.freeT;simp;omega);cases ob with
       |none=>
        have HB:=ze (Zp HX aK);go_wp2_with fail;generalize(wr.alloc (.cells (yZz x) 294))=Y at*;have D:Nonempty (zm Y.1.size Y):=zm.some _ _;have C:=fun(u:zm Y.1.size Y) b o h=>u.cell b o h;refine zh Y.1.size (by kernel_rfl) (by kernel_rfl) ?_;repeat(go_big_quiet_step (fail))
        refine wpQuiet_nil ?_;rintro⟨V,n⟩;dsimp only;clear C D;have G:=ze (q.trans (n.mono q.size));clear n;dsimp only[zhG];go_wp2_with fail;go_roundw;case rel=>exact⟨i+1,by omega,by go_num,by rw[ud R,ud HB];rfl,G⟩
        case measure=>simp[intOf];omega
       |some j=>
        obtain⟨bI,y,hy,bx⟩:=ud (ao j) rfl;have HB:=ze (VN HX aK hy);have aS:=ze (aZ y (List.mem_of_getElem? hy));have HY:=ze hy;have bq:(j:Int)<m.tg.length:=(by omega);clear hy bx;go_wp2_with fail;generalize(wr.alloc (.cells (yZz x) 294))=Y at*;have D:Nonempty (zm Y.1.size Y):=zm.some _ _;have C:=fun(u:zm Y.1.size Y) b o h=>u.cell b o h;refine zh Y.1.size (by kernel_rfl) (by kernel_rfl) ?_;repeat(go_big_quiet_step (fail))
        refine wpQuiet_nil ?_;rintro⟨V,n⟩;dsimp only;clear C D;have G:=ze (q.trans (n.mono q.size));have aj:=bj.later n;have aI:=fun W (hW:B_ V W)=>ze (zgD (aj.later hW) hc ax x y aR.1 aS.1 aR.2 aS.2 m.tight);have q2:=(n.block _ zl).trans ap;obtain⟨d0,d1,d2,d3,d4,d5,d6,d7,d8,d9,bD⟩:=xQ (f:=x) q2;have dl:=zd q2;obtain⟨-,-,-,-,bV,-,-⟩:=aj.rest;have ul:=aj.lt;obtain⟨g',L,hv,_,bB,e0,e1,e2,e3,e4,e5,e6,e7,e8,e9,bE⟩:=X9 aj.krow HY;injection hv with a M v;injection a with a;injection a with a;subst a v;have bp:decide ((j:Int)<0)=false:=(by simp);clear M q2 n z0 z1 z2 z3 z4 z5 z6 z7 z8 z9 bA y0 y1 y2 y3 y4 y5 y6 y7 y8 y9 F aj v7 bz vp zl;dsimp only[zhG];generalize bo:m.aheadB m.tight x y=fb at*;go_wp2_with fail;have D:Nonempty (zm V.1.size V):=zm.some _ _;have C:=fun(u:zm V.1.size V) b o h=>u.cell b o h;refine zh V.1.size (by kernel_rfl) (by kernel_rfl) ?_;repeat(go_big_quiet_step (first
         |(go_at_call 250;exact Calls.later (Q _) (aI _ (Subtype.property _)))))
        refine wpQuiet_nil ?_;rintro⟨V2,aw⟩;dsimp only;clear C D aI;have av:=ze (G.trans (aw.mono G.size));clear aw bo;cases fb with
        |true=>
         go_wp2_with fail;go_roundw;case rel=>exact⟨i+1,by omega,by go_num,by rw[ud R,ud HB];rfl,av⟩
         case measure=>simp[intOf];omega
        |false=>
         go_wp2_with fail;go_roundw;case rel=>exact⟨i+1,by omega,by go_num,by rw[ud R,ud HB];rfl,av⟩
         case measure=>simp[intOf];omega
    ·obtain rfl:i=m.tg.length:=(by omega);have bv:w.1.size<w2.1.size:=zd aB;have ai:=ze ((X.block _ bv).trans aB);have az:=ze (ay.trans (X.mono ay.size));have bP:decide ((m.tg.length:Int)<m.tg.length)=false:=(by simp);cases af:m.bestI m.tg.length with
     |none=>
      rw[af]at ac;dsimp only at ac;obtain⟨b0,b1,b2,b3,b4,b5,b6,b7,b8,b9,aU⟩:=z11 ai;have bf:=fun j=>zI ai j;have bl:=zd ai;clear af A X R ao;dsimp only[zhG];go_wp2_with fail;have hf:=XG ai (I 0) (I 0) (I 0) (I 0) (I 0) (I 0) (I 0) (I 0) (I 0) (I 0) (I 0);refine bodyPost_ret (zn results213 _ _ w.1.size _ _ _ _ _ rfl rfl hf underlying51 rfl (by kernel_rfl)) rfl ?_;have kT:=az.trans ((jk (w:=wr) (g:=w.1.size) (I 0) (I 0) (I 0) (I 0) (I 0) (I 0) (I 0) (I 0) (I 0) (I 0) (I 0)).below az.size (fun k e=>by omega));rw[ud ac];exact⟨rfl,H.later kT,zj.of_below kT⟩
     |some j=>
      rw[af]at ac;dsimp only at ac;obtain⟨bJ,x,P,bw⟩:=ud (ao j) af;obtain⟨c0,c1,-⟩:=A.conf;obtain⟨-,-,-,-,-,aa,ab⟩:=A.rest;have rf:=fun j=>zI A.head j;have bp:decide ((j:Int)<0)=false:=(by simp);have bq:(j:Int)<m.tg.length:=(by omega);have aN:=ze (zR.addPick A (m.picks+1));obtain⟨g,L,hv,_,ae,y0,y1,y2,y3,y4,y5,y6,y7,y8,y9,F⟩:=X9 A.krow P;injection hv with a M v;subst a v;have bu:¬p=g:=fun e=>zv A.head A.krow (by decide) g rfl e.symm;have bG:¬g=p:=fun e=>bu e.symm;have gf:∀j,wr.frozen? (U g j)=false:=fun j=>by
       obtain⟨aV,hc⟩:=zG A.krow (k:=g) rfl;exact zI hc j
      clear af X R ao bw;dsimp only[zhG];go_wp2_with fail;generalize(wr.setCell (U p 13) (I (m.picks+1)))=W3 at*;obtain⟨S,aC⟩:=ud aN;have bc:=ze aC;have bg:=ze (aC.heap ai (fun e=>by have:=H.lt;omega));clear y0 y1 y2 y3 y4 y5 y6 y7 y8 y9 F r7 N aa ab c0 c1 rf gf A r ae;obtain⟨c0,c1,-⟩:=S.conf;obtain⟨r7,-,-,-,N,aa,ab⟩:=S.rest;have r:=S.lt;obtain⟨g',L,hv,_,ae,y0,y1,y2,y3,y4,y5,y6,y7,y8,y9,F⟩:=X9 S.krow P;injection hv with a M v;injection a with a;injection a with a;subst a v;have gf:∀j,W3.frozen? (U g j)=false:=fun j=>by
       obtain⟨aV,hc⟩:=zG S.krow (k:=g) rfl;exact zI hc j
      have aO:=ze S;have aY:=QU H.krow g rfl;dsimp only at r7 aa ab c0 c1;clear S aC aN;refine qP 12 (by kernel_rfl) (by kernel_rfl) ?_;simp only[List.take_succ_cons,List.take_zero,List.drop_succ_cons,List.drop_zero];repeat still_step
      refine wpStill_nil ?_;go_wp2_with fail;obtain⟨T,bb,aD⟩:=zpu (m:={m with picks:=m.picks+1}) (l:=m.tg) aO P m.epoch (m.picks+1) slot;have bh:=ze (aD.heap bg (fun e=>by have:=aY;omega));have bd:=ze aD;generalize(((W3.setCell (U g (j*11+7)) (I m.epoch)).setCell (U g (j*11+7+1)) (I (m.picks+1))).setCell (U g (j*11+9)) (I slot)).drew=W4 at*;clear y0 y1 y2 y3 y4 y5 y6 y7 y8 y9 F r7 N aa ab c0 c1 gf r ae aD;obtain⟨c0,c1,-⟩:=T.conf;obtain⟨r7,-,-,-,N,aa,ab⟩:=T.rest;have r:=T.lt;obtain⟨g',L,hv,_,ae,y0,y1,y2,y3,y4,y5,y6,y7,y8,y9,F⟩:=X9 T.krow bb;injection hv with a M v;injection a with a;injection a with a;subst a v;have gf:∀j,W4.frozen? (U g j)=false:=fun j=>by
       obtain⟨aV,hc⟩:=zG T.krow (k:=g) rfl;exact zI hc j
      dsimp only at r7 aa ab c0 c1 y0 y1 y2 y3 y4 y5 y6 y7 y8 y9 F;obtain⟨aX,bU,aE⟩:=T.putTask' bb 10 {x with ep:=m.epoch,num:=m.picks+1,slot:=slot,till:=m.now+m.c.le} (I (m.now+m.c.le)) (by omega) rfl;have bi:=ze aX;have be:=ze aE;have aL:=ze (aE.heap bh (fun e=>by have:=aY;omega));have bk:=fun W=>ze (zfl {x with ep:=m.epoch,num:=m.picks+1,slot:=slot,till:=m.now+m.c.le} W);have bM:=hc.le;obtain⟨bN,bO⟩:=ax;clear T aX aE;refine qP 13 (by kernel_rfl) (by kernel_rfl) ?_;simp only[List.take_succ_cons,List.take_zero,List.drop_succ_cons,List.drop_zero];repeat still_step
      refine wpStill_nil ?_;go_wp2_with fail;refine(bk _).mono ?_;rintro e w6 ⟨rfl,ad⟩;have au:Z (W4.setCell (U g (j*11+10)) (I (m.now+m.c.le))).1.size (W4.setCell (U g (j*11+10)) (I (m.now+m.c.le))) w6:=⟨ad.os,ad.tape,ad.output,ad.size,ad.block⟩;have ba:w.1.size<(W4.setCell (U g (j*11+10)) (I (m.now+m.c.le))).1.size:=zd aL;have aM:=ze ((au.block _ ba).trans aL);have q6:=zo w6 (.cells #[I x.kind,I x.s.t,I x.s.se,I x.s.we,I x.si,I x.tc,I x.rest,I m.epoch,I (m.picks+1),I slot,I (m.now+m.c.le)] 51);have d:=(E w6.1.size w6).alloc (Q _) (.cells #[I x.kind,I x.s.t,I x.s.se,I x.s.we,I x.si,I x.tc,I x.rest,I m.epoch,I (m.picks+1),I slot,I (m.now+m.c.le)] 51);have HV:=ze (au.trans (d.mono au.size));have aq:=ze ((d.block _ (zd aM)).trans aM);obtain⟨a0,a1,a2,a3,a4,a5,a6,a7,a8,a9,bC⟩:=z11 q6;have al:=zd q6;obtain⟨b0,b1,b2,b3,b4,b5,b6,b7,b8,b9,aU⟩:=z11 aq;have bf:=fun j=>zI aq j;have bl:=zd aq;clear ad au q6 d y0 y1 y2 y3 y4 y5 y6 y7 y8 y9 F r7 N aa ab c0 c1 gf ba;dsimp only[tkA];go_wp2_with fail;have hf:=XG aq (I x.kind) (I x.s.t) (I x.s.se) (I x.s.we) (I x.si) (I x.tc) (I x.rest) (I m.epoch) (I (m.picks+1)) (I slot) (I (m.now+m.c.le));refine bodyPost_ret (zn results213 _ _ w.1.size _ _ _ _ _ rfl rfl hf underlying51 rfl (by kernel_rfl)) rfl ?_;obtain⟨e1,e2⟩:=zlQ H (g:=g) rfl (by intro k hk;exact hk) az bc bd be bi HV (jk (w:=(w6.alloc (.cells #[I x.kind,I x.s.t,I x.s.se,I x.s.we,I x.si,I x.tc,I x.rest,I m.epoch,I (m.picks+1),I slot,I (m.now+m.c.le)] 51))) (g:=w.1.size) (I x.kind) (I x.s.t) (I x.s.se) (I x.s.we) (I x.si) (I x.tc) (I x.rest) (I m.epoch) (I (m.picks+1)) (I slot) (I (m.now+m.c.le)));rw[ud ac];refine⟨?_,?_,e2⟩
      ·simp only[P,Option.getD_some];rfl
      ·dsimp only;rw[Jb _ P];simp only[List.set_set,List.length_set]at e1;exact e1
structure CPk(w Y:World)(i:Ids)(c:Cf)(ep:Int)(m':MS)(z:Nat)(jb:Tk):Prop where
 mill:zF Y i c ep m'
 kept:Kx i w Y
 low:w.1.size+3<=z
 job:Y.1[z]?=K (.cells (yZz jb) 51)
 res:Y.1[w.1.size+2]?=K Zj
theorem CPk.ahead(b:FLt w i)(f:B_ w X)(v:X.1.size=w.1.size+3)(d:X.1[w.1.size+2]?=K Zj)(l:Kx i (X.alloc Zj) V)(o:zF V i c ep m'):CPk w ((((((((((((V.setCell (U X.1.size 0) (I jb.kind)).setCell (U X.1.size 1) (I jb.s.t)).setCell (U X.1.size 2) (I jb.s.se)).setCell (U X.1.size 3) (I jb.s.we)).setCell (U X.1.size 4) (I jb.si)).setCell (U X.1.size 5) (I jb.tc)).setCell (U X.1.size 6) (I jb.rest)).setCell (U X.1.size 7) (I jb.ep)).setCell (U X.1.size 8) (I jb.num)).setCell (U X.1.size 9) (I jb.slot)).setCell (U X.1.size 10) (I jb.till))) i c ep m' X.1.size jb:=by
 have m:=jk (w:=V) (g:=X.1.size) (I jb.kind) (I jb.s.t) (I jb.s.se) (I jb.s.we) (I jb.si) (I jb.tc) (I jb.rest) (I jb.ep) (I jb.num) (I jb.slot) (I jb.till);have hn:∀k,w.1.size<=k->¬xm w i k:=fun k h e=>by have:=b.foot k e;omega
 have a:B_ w (X.alloc Zj):=f.alloc f.size _;have j:=b.kept a l;have q:(X.alloc Zj).1.size=X.1.size+1:=zE _ _;have n:=j.heap (zo X Zj) (hn _ (by omega));have p:V.1[w.1.size+2]?=K Zj:=j.heap ((Below.heap_alloc _ _ _ (zd d)).trans d) (hn _ (by omega));obtain⟨r,u⟩:=b.close a o l m (by omega) (by omega);refine⟨r,u,by omega,XG n (I jb.kind) (I jb.s.t) (I jb.s.se) (I jb.s.we) (I jb.si) (I jb.tc) (I jb.rest) (I jb.ep) (I jb.num) (I jb.slot) (I jb.till),m.heap p (by omega)⟩
theorem CPk.behind(a:FLt w i)(b:B_ w X)(n:X.1.size=w.1.size+3)(l:X.1[w.1.size+2]?=K Zj)(j:Kx i X V)(f:zF V i c ep m'):CPk w (V.alloc (.cells (yZz jb) 51)) i c ep m' V.1.size jb:=by
 have hn:∀k,w.1.size<=k->¬xm w i k:=fun k h e=>by have:=a.foot k e;omega
 have d:=a.kept b j;have m:=d.size;have g:V.1[w.1.size+2]?=K Zj:=d.heap l (hn _ (by omega));exact⟨f.later ((E _ _).alloc (Q _) _),(a.kx b j).trans (f.below ((E _ _).alloc (Q _) _)),by omega,zo _ _,(Below.heap_alloc _ _ _ (zd g)).trans g⟩
theorem zie(w:World)(k:Nat):w.drew.1[k]?=w.1[k]?:=rfl
theorem Jv{z a i:Nat}(hn:¬a=z)(o:a<V.1.size)(c d e f h j k l m n b:Value):((((((((((((V.setCell (U z 0) (c)).setCell (U z 1) (d)).setCell (U z 2) (e)).setCell (U z 3) (f)).setCell (U z 4) (h)).setCell (U z 5) (j)).setCell (U z 6) (k)).setCell (U z 7) (l)).setCell (U z 8) (m)).setCell (U z 9) (n)).setCell (U z 10) (b))).cell? (U a i)=V.cell? (U a i):=zD (jk (w:=V) (g:=z) c d e f h j k l m n b) hn o
theorem zkV{po d:Nat}{ct mv td:Value}{eo:Int}(c':Cf)(hp:w.1[po]?=K (zL i.x d c' ct mv td eo))(a5:¬xm w i po)(A:FLt w i)(o:Ops)(te tn:Int)(M:Tk->Int->MS->Prop)(P:∀X,B_ w X->Calls prog 18 #[(O i.x),I o.a] X fun e V=>∃(jb:Tk) (u:Int) (m':MS),e=.returned (.tuple #[tkA jb,I u])/\zF V i c ep m'/\Kx i X V/\M jb u m'):
  Calls prog 140 #[(O po),.agg (oZz 6 o),.agg #[I te,I tn]] w fun e w'=>∃(jb:Tk) (u:Int) (m':MS),e=.returned (.tuple #[tkA jb,I u])/\zF w' i c ep m'/\Kx i w w'/\M jb u m':=by
 obtain⟨y0,y1,y2,b,yz⟩:=K5 w (.cells (oZz 6 o) 82) (.cells #[I te,I tn] 49) Zj;have HC:=fun(V:World) (hb:B_ w V)=>ze (P V hb);have m:=ze A;have ac:=zd hp;have HP:=ze hp;clear hp P;go_in;go_wp2_with fail;generalize(((w.alloc (.cells (oZz 6 o) 82)).alloc (.cells #[I te,I tn] 49)).alloc Zj)=X at*;have y:B_ X (X.alloc Zj):=(E _ _).alloc (Q _) _;have R:=HC X.drew b.drew;have S:=HC (X.alloc Zj).drew ((b.trans (y.mono b.size)).drew);clear HC;have L:=(b.block po ac).trans HP;have z0:X.cell? (U po 0)=K (O i.x):=by unfold zL at L;rw[xd L];rfl
 obtain⟨-,-,z2,-⟩:=zc y0;have B:po<X.1.size:=by omega
 have C:w.1.size<X.1.size:=by omega
 have ab:(X.alloc Zj).1.size=X.1.size+1:=zE _ _;have a9:=(y.cell (p:=(U po 0)) B).trans z0;have aa:=(y.cell (p:=(U w.1.size 2)) C).trans z2;have r:po<(X.alloc Zj).1.size:=by omega
 have j:w.1.size<(X.alloc Zj).1.size:=by omega
 have a7:X.1.size<(X.alloc Zj).1.size:=by omega
 have a2:¬xm w i w.1.size:=fun e=>by have:=A.foot _ e;omega
 have a3:¬xm w i X.1.size:=fun e=>by have:=A.foot _ e;omega
 have D:=ze (b.alloc b.size Zj);have ae:¬po=X.1.size:=by omega
 have ag:¬w.1.size=X.1.size:=by omega
 have Y2:=ze y2;have F:=ze b;have YZ:=ze yz;have Z3:=ze (zo X Zj);have a0:=ze a9;have a1:=ze aa;clear y0 y1 y2 b yz L A y ab a9 aa;go_region_held3 (fun w'=>w'.cell? (U po 0)=K (O i.x)/\w'.cell? (U w.1.size 2)=K (I o.a)) (first|go_keep|exact⟨(Jv (by assumption) (by assumption) _ _ _ _ _ _ _ _ _ _ _).trans (by assumption),(Jv (by assumption) (by assumption) _ _ _ _ _ _ _ _ _ _ _).trans (by assumption)⟩) (first
  |(go_at_call 18;(with_reducible refine(ud S).mono ?_);rintro e V ⟨jb,u,m',rfl,hm,q,ha⟩;have h:=zdm q;have l:zj (xm w i) (X.alloc Zj) V:=m.kept D h;clear q;have N:=ze ha;have v0:=(zD (i:=0) l a5 r).trans a0;have v2:=(zD (i:=2) l a2 j).trans a1;have a4:po<V.1.size:=J r l.size;have a6:w.1.size<V.1.size:=J j l.size;have H:=l.heap Z3 a3;obtain⟨j0,j1,j2,j3,j4,j5,j6,j7,j8,j9,a8⟩:=z11 H;have jf:=(fun i=>zI H i);have T:=ze (CPk.ahead (jb:=jb) m F YZ Y2 h hm);clear hm l h ha H)
  |(go_at_call 18;(with_reducible refine(ud R).mono ?_);rintro e V ⟨jb,u,m',rfl,hm,q,ha⟩;have h:=zdm q;have l:zj (xm w i) X V:=m.kept F h;clear q;have N:=ze ha;have v0:=(zD (i:=0) l a5 B).trans z0;have v2:=(zD (i:=2) l a2 C).trans z2;have a4:po<V.1.size:=J B l.size;have a6:w.1.size<V.1.size:=J C l.size;have ad:¬po=V.1.size:=(by have:=l.size;omega);have af:¬w.1.size=V.1.size:=(by have:=l.size;omega);have W:=ze (CPk.behind (jb:=jb) m F YZ Y2 h hm);clear hm l h ha))
 all_goals(first
  |(have n:=ud T;clear T j0 j1 j2 j3 j4 j5 j6 j7 j8 j9 a8 jf;generalize((((((((((((V.setCell (U X.1.size 0) (I jb.kind)).setCell (U X.1.size 1) (I jb.s.t)).setCell (U X.1.size 2) (I jb.s.se)).setCell (U X.1.size 3) (I jb.s.we)).setCell (U X.1.size 4) (I jb.si)).setCell (U X.1.size 5) (I jb.tc)).setCell (U X.1.size 6) (I jb.rest)).setCell (U X.1.size 7) (I jb.ep)).setCell (U X.1.size 8) (I jb.num)).setCell (U X.1.size 9) (I jb.slot)).setCell (U X.1.size 10) (I jb.till)))=Y at n ⊢;generalize X.1.size=z at n ⊢)
  |(have n:=ud W;clear W ad af;generalize(V.alloc (.cells (yZz jb) 51))=Y at n ⊢;generalize V.1.size=z at n ⊢))
 all_goals
  clear v0 v2 a4 a6 z0 z2 B C Y2 YZ Z3 a0 a1 R S D r j a7 a3 ae ag
  obtain⟨q0,q1,q2,q3,q4,q5,q6,q7,q8,q9,ak⟩:=z11 n.job
  obtain⟨j0,j1,j2,j3,j4,j5,j6,j7,j8,j9,a8⟩:=z11 n.res
  have jf:=fun i=>zI n.res i
  have aj:=zd n.job
  have ai:=zd n.res
  have ah:¬w.1.size+2=z:=by have:=n.low;omega
  have f:=ze n
  clear n
  go_wp2_with fail
  refine qP 3 (by kernel_rfl) (by kernel_rfl) ?_
  simp only[List.take_succ_cons,List.take_zero,List.drop_succ_cons,List.drop_zero]
  iterate 2 still_step
  still_call (zaj _ _)
  refine wpStill_nil ?_
  go_wp2_with fail
  rw[show w.1.size+1+1=w.1.size+2 from rfl]
  have hf:((((((((((((Y.setCell (U (w.1.size+2) 0) (I jb.kind)).setCell (U (w.1.size+2) 1) (I jb.s.t)).setCell (U (w.1.size+2) 2) (I jb.s.se)).setCell (U (w.1.size+2) 3) (I jb.s.we)).setCell (U (w.1.size+2) 4) (I jb.si)).setCell (U (w.1.size+2) 5) (I jb.tc)).setCell (U (w.1.size+2) 6) (I jb.rest)).setCell (U (w.1.size+2) 7) (I jb.ep)).setCell (U (w.1.size+2) 8) (I jb.num)).setCell (U (w.1.size+2) 9) (I jb.slot)).setCell (U (w.1.size+2) 10) (I jb.till))).drew.1[w.1.size+2]?=K (.cells (yZz jb) 51 (0,0)):=(zie _ _).trans (XG f.res (I jb.kind) (I jb.s.t) (I jb.s.se) (I jb.s.we) (I jb.si) (I jb.tc) (I jb.rest) (I jb.ep) (I jb.num) (I jb.slot) (I jb.till))
  have G:zj (fun k=>k=w.1.size+2) Y ((((((((((((Y.setCell (U (w.1.size+2) 0) (I jb.kind)).setCell (U (w.1.size+2) 1) (I jb.s.t)).setCell (U (w.1.size+2) 2) (I jb.s.se)).setCell (U (w.1.size+2) 3) (I jb.s.we)).setCell (U (w.1.size+2) 4) (I jb.si)).setCell (U (w.1.size+2) 5) (I jb.tc)).setCell (U (w.1.size+2) 6) (I jb.rest)).setCell (U (w.1.size+2) 7) (I jb.ep)).setCell (U (w.1.size+2) 8) (I jb.num)).setCell (U (w.1.size+2) 9) (I jb.slot)).setCell (U (w.1.size+2) 10) (I jb.till))).drew:=(jk (w:=Y) (g:=w.1.size+2) (I jb.kind) (I jb.s.t) (I jb.s.se) (I jb.s.we) (I jb.si) (I jb.tc) (I jb.rest) (I jb.ep) (I jb.num) (I jb.slot) (I jb.till)).drew
  generalize((((((((((((Y.setCell (U (w.1.size+2) 0) (I jb.kind)).setCell (U (w.1.size+2) 1) (I jb.s.t)).setCell (U (w.1.size+2) 2) (I jb.s.se)).setCell (U (w.1.size+2) 3) (I jb.s.we)).setCell (U (w.1.size+2) 4) (I jb.si)).setCell (U (w.1.size+2) 5) (I jb.tc)).setCell (U (w.1.size+2) 6) (I jb.rest)).setCell (U (w.1.size+2) 7) (I jb.ep)).setCell (U (w.1.size+2) 8) (I jb.num)).setCell (U (w.1.size+2) 9) (I jb.slot)).setCell (U (w.1.size+2) 10) (I jb.till))).drew=Zf at hf G ⊢
  refine bodyPost_ret (v:=.tuple #[tkA jb,I u]) (zn results140 _ _ (w.1.size+2) _ _ _ _ _ rfl rfl hf underlying51 rfl (by kernel_rfl)) rfl ?_
  exact⟨jb,u,m',rfl,((ud m).close3 (ud f).mill (ud f).kept (ud f).res (by decide) G (by omega)).1,((ud m).close3 (ud f).mill (ud f).kept (ud f).res (by decide) G (by omega)).2,ud N⟩
