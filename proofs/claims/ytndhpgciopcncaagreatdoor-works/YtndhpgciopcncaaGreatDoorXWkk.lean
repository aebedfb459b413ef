import Derived.Test.YtndhpgciopcncaaGreatDoorXApp0
import Derived.Test.YtndhpgciopcncaaGreatDoorXFrt0
open Option renaming some → J
open Nat renaming lt_of_lt_of_le → E
open Go.RowKit renaming Below → Q
open Go renaming Value → Y
open Nat renaming le_trans → N
open Nat renaming zero_le → S
set_option linter.unusedVariables false
set_option maxRecDepth 8000
set_option maxHeartbeats 8000000
open Go.Proofs.Tryz
namespace Go.Proofs.YtndhpgciopcncaaGreatDoor
open Go.RowKit
variable {ts:List Tk} {kn:List Y} {B X n q wb:Nat} {lv pv v:Y} {w w':World}
theorem Tryz.infoJobs:(prog.info? 55).map (fun i=>(i.zero,i.size,i.bytes))=J (J (.slice none 0 0),1,24):=by kernel_rfl
theorem zqA{g:Nat}{a0 a1 a2 a3 a4 a5 a6 a7 b a9 a:Y}{t:TypeId}{fr:Nat×Nat}(h:w.1[g]?=J (.cells #[a0,a1,a2,a3,a4,a5,a6,a7,b,a9,a] t fr)):w.cell? (U g 0)=J a0/\w.cell? (U g 1)=J a1/\w.cell? (U g 2)=J a2/\w.cell? (U g 3)=J a3/\w.cell? (U g 4)=J a4/\w.cell? (U g 5)=J a5/\w.cell? (U g 6)=J a6/\w.cell? (U g 7)=J a7/\w.cell? (U g 8)=J b/\w.cell? (U g 9)=J a9/\w.cell? (U g 10)=J a:=by
 refine⟨?_,?_,?_,?_,?_,?_,?_,?_,?_,?_,?_⟩<;>rw[xd h]<;>rfl
theorem zqn(h:Q X w w'):zj (fun k=>X<=k) w w':=⟨h.os,h.tape,h.output,h.size,fun k _ hn=>h.block k (by omega)⟩
theorem zdv(a b c d:Option Addr)(a1 a2 f g h i j k:Nat):∀u∈[Value.slice a a1 a2,.slice b f g,.slice c h i,.slice d j k],u.oneCell'=true:=by
 intro u e;simp at e;rcases e with rfl|rfl|rfl|rfl<;>rfl
theorem zbG(h:w.1[wb]?=J (.cells #[pv,lv] 77 (0,0))){size:Nat}{e:TypeId}{xs:List Y}(d:w.ownsRow B e size v n xs)(c:e≠77)(hv:v.ownBlock=J wb):False:=by
 obtain⟨b,a⟩:=zG d hv;rw[h]at a;injection a with a;injection a with _ a;exact c a.symm
def KR(m:Tk)(l:List Tk)(k:Nat):List Tk:=List.replicate k m++l.drop k
theorem zgq(m:Tk)(l:List Tk):KR m l 0=l:=by simp[KR]
theorem ziZ(m:Tk)(l:List Tk):KR m l l.length=List.replicate l.length m:=by simp[KR]
theorem zgp(m:Tk)(l:List Tk)(k:Nat)(h:k<l.length):KR m l (k+1)=(KR m l k).set k m:=by
 have e:(l.drop k).set 0 m=m::l.drop (k+1):=by rw[List.drop_eq_getElem_cons h];rfl
 unfold KR;rw[List.set_append_right _ _ (by simp),List.length_replicate,Nat.sub_self,e,List.replicate_succ',List.append_assoc];rfl
theorem Yi(m:Tk)(l:List Tk)(k:Nat)(h:k<=l.length):(KR m l k).length=l.length:=by simp[KR];omega
theorem zja(m:Tk)(l:List Tk)(k:Nat)(h:k<l.length):∃x,(KR m l k)[k]?=J x:=⟨_,List.getElem?_eq_getElem (by rw[Yi m l k (by omega)];exact h)⟩
def zeG(B:Nat)(w:World)(wb:Nat)(pv lv l:Y)(q:Nat)(w':World):Prop:=∃a b,ZZ B w' a b (q+1)/\w'.1[wb]?=J (.cells #[pv,a] 77 (0,0))/\zj (fun k=>k=wb\/lv.ownBlock=J k\/l.ownBlock=J k) w w'/\(∀k,a.ownBlock=J k->lv.ownBlock=J k\/w.1.size<=k)
theorem zfN{g t:World}{an:Option Addr}{d:Nat}(h:ZZ B w (.slice an kn.length d) kn q)(h4:kn.length=4*q)(M:B<=X)(a3:wb<X)(a5:B<=wb)(H:∀k,(Value.slice an (4*q) d).ownBlock=J k->k<X)(P:∀v∈kn,∀k,v.ownBlock=J k->k<X)(K:Q X w g){l:Y}(kW:zj (fun k=>l.ownBlock=J k) w g)(T:∀k,l.ownBlock=J k->X<=k)(zC:X<=g.1.size)(a2:g.1[wb]?=J (.cells #[pv,.slice an (4*q) d] 77 (0,0)))(a0:g.ownsRow B 55 1 (.slice an (4*q) d) (4*q) kn){z:Int}(W:(q:Int)+10=z){na nb nc:Nat}(hn:n<=1000000/\na<=1000000/\nb<=1000000/\nc<=1000000){a b c:Y}(mL:MkJ X g l n z)(mA:MkJ X g a na z)(mB:MkJ X g b nb z)(mC:MkJ X g c nc z)(O:zj (fun k=>(Value.slice an (4*q) d).ownBlock=J k) g t)(I:t.1[wb]?=J (.cells #[pv,.slice an (4*q) d] 77 (0,0))){x f:Nat}(on:t.ownsRow B 55 1 (.slice (J (U x 0)) (4*q+4) f) (4*q+4) (kn++[l,a,b,c])){o:Obj}(Dn:Value.slice an (4*q) d=.slice (J (U x 0)) (4*q) f\/(x=(g.alloc o).1.size/\(g.alloc o).grownBy t none)):
  zeG B w wb pv (.slice an (4*q) d) l q (t.setCell (U wb 1) (.slice (J (U x 0)) (4*q+4) f)):=by
 have G:zj (fun k=>k=wb) t (t.setCell (U wb 1) (.slice (J (U x 0)) (4*q+4) f)):=zk (zj.refl _ _) rfl;have D:zj (fun k=>k=wb\/(Value.slice an (4*q) d).ownBlock=J k) g (t.setCell (U wb 1) (.slice (J (U x 0)) (4*q+4) f)):=(O.mono (fun _ _ e=> .inr e)).trans (G.mono (fun _ _ e=> .inl e)) (fun _ _ e=>e);have F:zj (fun k=>k=wb\/(Value.slice an (4*q) d).ownBlock=J k\/l.ownBlock=J k) w (t.setCell (U wb 1) (.slice (J (U x 0)) (4*q+4) f)):=(kW.mono (fun _ _ e=> .inr (.inr e))).trans D (fun _ _ e=>e.elim .inl (fun e=> .inr (.inl e)));have p:∀(u:Y) (j:Nat),MkJ X g u j z->MkJ B (t.setCell (U wb 1) (.slice (J (U x 0)) (4*q+4) f)) u j z:=fun u j hu=>yw (zi hu D (fun k s e=>by
  have h1:=(World.ownsRow.lt hu k s).1;rcases e with e|e
  ·omega
  ·have:=H k e;omega)) M
 refine⟨_,kn++[l,a,b,c],⟨?_,?_,fun j v m=>?_⟩,xq (i:=1) I _,F,fun k s=>?_⟩
 ·have:=zi on G (fun k s e=>by
   subst e;exact zbG I on (by decide) s)
  rw[List.length_append,h4];exact this
 ·rw[List.length_append,h4];simp;omega
 ·by_cases V:j<kn.length
  ·rw[List.getElem?_append_left V]at m;obtain⟨n',Z,A⟩:=h.marks j v m;have hv:=List.mem_of_getElem? m;refine⟨n',Z,zi A F (fun k s e=>?_)⟩;rcases e with e|e|e
   ·subst e;have a1:w.1[k]?=g.1[k]?:=(K.block k a3).symm;obtain⟨L,y⟩:=zG A s;rw[a1,a2]at y;injection y with y;injection y with _ y;exact absurd y (by decide)
   ·have R:=H k e;obtain⟨L,y⟩:=zG A s;obtain⟨a4,r⟩:=zG a0 e;rw[K.block k R,y]at r;injection r with r;injection r with _ r;exact absurd r (by decide)
   ·have:=P v hv k s;have:=T k e;omega
  ·rw[List.getElem?_append_right (by omega)]at m;have C:j-kn.length<4:=(List.getElem?_eq_some_iff.1 m).1;have hq:((j/4:Nat):Int)+10=z:=(by rw[<-W];omega);rw[hq];obtain⟨i,hi⟩:∃i,j-kn.length=i:=⟨_,rfl⟩;rw[hi]at m C
   match i,C with
   |0,_=>simp at m;subst m;exact⟨n,hn.1,p _ _ mL⟩
   |1,_=>simp at m;subst m;exact⟨na,hn.2.1,p _ _ mA⟩
   |2,_=>simp at m;subst m;exact⟨nb,hn.2.2.1,p _ _ mB⟩
   |3,_=>simp at m;subst m;exact⟨nc,hn.2.2.2,p _ _ mC⟩
 ·simp[Value.ownBlock]at s;subst s;rcases Dn with e|⟨e,_⟩
  ·left;rw[e];rfl
  ·right;have:=K.size;rw[e,zE];omega
theorem zir(hw:w.1[wb]?=J (.cells #[pv,lv] 77 (0,0)))(h:ZZ B w lv kn q)(aj:B<=X)(R:X<=w.1.size)(a9:wb<X)(aw:B<=wb)(V:∀k,lv.ownBlock=J k->k<X)(am:∀v∈kn,∀k,v.ownBlock=J k->k<X)(ts:List Tk)(l:Y)(hl:w.ownsRow X 51 11 l ts.length (ts.flatMap tkV))(aI:ts.length<=900)(hn:q+1<=1099511627776):
  Calls prog 148 #[(O wb),l] w fun e w'=>e=.returned (.tuple #[])/\zeG B w wb pv lv l q w':=by
 obtain⟨an,r,rfl⟩:=zq h.row;obtain⟨c,a,rfl⟩:=zq hl;have h4:=h.four;have P:w.ownsRow B 55 1 (.slice an (4*q) r) (4*q) kn:=by rw[<-h4];exact h.row
 have D:=h.marks;rw[h4]at hw V ⊢;obtain⟨-,c1,-⟩:=zc hw;have aJ:=zd hw;have aG:(4*(q:Int)).tdiv 4=(q:Int):=by rw[Int.tdiv_eq_ediv_of_nonneg (by omega)];omega
 obtain⟨b,a8⟩:∃b:Int,(q:Int)+10=b:=⟨_,rfl⟩;have ae:=ze (zo w (.cells #[I b,I 0,I 0,I 0,I 0,I 0,I 0,I 0,I 0,I 0,I 0] 51));have z:Hid (B_ w (w.alloc (.cells #[I b,I 0,I 0,I 0,I 0,I 0,I 0,I 0,I 0,I 0,I 0] 51))):=(Below.refl _ _).alloc (Nat.le_refl _) _;have aD:=ze (zE w (.cells #[I b,I 0,I 0,I 0,I 0,I 0,I 0,I 0,I 0,I 0,I 0] 51));have ah:=ze a8;have HH:=ze h;have HW:=ze hw;have a3:=ze P;have H4:=ze h4;have A:=ze hl;clear h P hl h4 D;go_in;go_wp2_with fail;clear a8;generalize(w.alloc (.cells #[I b,I 0,I 0,I 0,I 0,I 0,I 0,I 0,I 0,I 0,I 0] 51))=V0 at*;have ao:=World.ownsRow.alloc A (.cells #[I b,I 0,I 0,I 0,I 0,I 0,I 0,I 0,I 0,I 0,I 0] 51);have a7:V0.ownsRow X 51 11 (.slice c ts.length a) ts.length (ts.flatMap tkV):=zi A (zj.of_below (f:=fun _=>False) z) (fun _ _ h=>h);clear ao;go_loopw [5] (fun y wr=>∃(k:Nat),k<=ts.length/\y=I k/\wr.ownsRow X 51 11 (.slice c ts.length a) ts.length ((KR (zcG b) ts k).flatMap tkV)/\zj (fun k=>(Value.slice c ts.length a).ownBlock=J k) V0 wr) (fun y _=>ts.length-(intOf y).toNat);case atStart=>exact⟨0,S _,rfl,by rw[zgq];exact a7,zj.refl _ _⟩
 case round=>
  obtain⟨k,hk,rfl,hv,n⟩:=hrel;have G:¬(Value.slice c ts.length a).ownBlock=J w.1.size:=fun e=>by have:=(A.lt _ e).2;omega
  have F:=n.heap ae G;obtain⟨n0,n1,n2,n3,n4,n5,n6,n7,n8,n9,aL⟩:=zqA F;have aH:=zd F;by_cases Z:k<ts.length
  ·obtain⟨g,aB,aq,aE,aF⟩:=hv.form (by omega);injection aq with ar au av;subst ar;obtain⟨x,hx⟩:=zja (zcG b) ts k Z;have ap:=Yi (zcG b) ts k hk;have o:∀j,j<11->wr.cell? (U g (k*11+j))=(tkV x)[j]?:=fun j hj=>by
    rw[hv.cellAt _ (by omega)];exact qs yd _ k x j hx hj
   have x0:Cz wr g (k*11) (I x.kind):=o 0 (by omega);have x1:Cz wr g (k*11+1) (I x.s.t):=o 1 (by omega);have x2:Cz wr g (k*11+2) (I x.s.se):=o 2 (by omega);have x3:Cz wr g (k*11+3) (I x.s.we):=o 3 (by omega);have x4:Cz wr g (k*11+4) (I x.si):=o 4 (by omega);have x5:Cz wr g (k*11+5) (I x.tc):=o 5 (by omega);have x6:Cz wr g (k*11+6) (I x.rest):=o 6 (by omega);have x7:Cz wr g (k*11+7) (I x.ep):=o 7 (by omega);have x8:Cz wr g (k*11+8) (I x.num):=o 8 (by omega);have x9:Cz wr g (k*11+9) (I x.slot):=o 9 (by omega);have aQ:Cz wr g (k*11+10) (I x.till):=o 10 (by omega);have xf:=fun j=>hv.frozenAt j;have a6:(k:Int)<ts.length:=(by omega);have U1:=ze (zpJ (m:=zcG b) hv ap hx);have ab:=ze (n.trans (zqm (w:=wr) (g:=g) (k*11) (zcG b)) (fun j _ e=>by rw[e];rfl));have ak:¬g=w.1.size:=fun e=>G (by rw[<-e];rfl);have aC:¬w.1.size=g:=fun e=>ak e.symm;rw[<-zgp (zcG b) ts k Z]at U1;clear au av hx o hv n;go_wp2_with fail;exact⟨⟨k+1,by omega,by go_num,ud U1,ud ab⟩,by simp[intOf];omega⟩
  ·have e:k=ts.length:=(by omega);subst e;rw[ziZ]at hv;have hv:MkJ X wr (.slice c ts.length a) ts.length b:=hv;have W:∀k,(Value.slice c ts.length a).ownBlock=J k->X<=k:=fun k e=>(A.lt k e).1;have T:Q X w wr:=(z.mono R).trans (n.below (N R z.size) W);have a4:X<=wr.1.size:=N R T.size;have aa:=ze T;have ac:=ze ((zj.of_below (f:=fun k=>(Value.slice c ts.length a).ownBlock=J k) z).trans n (fun _ _ e=>e));have ad:=ze W;have ag:=ze F;have a6:¬(ts.length:Int)<ts.length:=(by omega);clear n Z hk T F a7 W;go_wp2_with(first
    |(at_builtin;refine yo rfl _ _ 55 rfl X 51 _ 11 88 underlying55 Tryz.infoJobR rfl (by decide) (.slice c ts.length a) ts.length ((List.replicate ts.length (zcG b)).flatMap tkV) rfl (MkJ.alloc hv _) wr.1.size 1 ((List.replicate 1 (zcG b)).flatMap tkV) rfl (zo _ _) rfl (jT Y9 _) (by decide) ?h1 ?h2 ?h3 ?_;(case h1=>(simp only[maxLen];omega));(case h2=>omega);(case h3=>(rw[zE];omega));intro ga i wa oa ra Da la;have mA:MkJ X wa (.slice (J (U ga 0)) (ts.length+1) i) (ts.length+1) b:=MkJ.of oa;have K:MkJ X wa (.slice c ts.length a) ts.length b:=(MkJ.alloc hv _).app mA (by omega) ra Da XI;have bA:Q X wr wa:=QF hv a4 ra;have zA:X<=wa.1.size:=N a4 bA.size;have kA:=((zj.refl (fun k=>(Value.slice c ts.length a).ownBlock=J k) wr).alloc _).grown ra (fun k e _=>e);have KA:=ze kA;have C:=kA.heap ag G;clear kA;obtain⟨p0,p1,p2,p3,p4,p5,p6,p7,p8,p9,aM⟩:=zqA C;have pl:=zd C;have af:=ze C;clear C)
    |(at_builtin;refine yo rfl _ _ 55 rfl X 51 _ 11 88 underlying55 Tryz.infoJobR rfl (by decide) (.slice c ts.length a) ts.length ((List.replicate ts.length (zcG b)).flatMap tkV) rfl (MkJ.alloc K _) wa.1.size 2 ((List.replicate 2 (zcG b)).flatMap tkV) rfl (zo _ _) rfl (jT Y9 _) (by decide) ?h1 ?h2 ?h3 ?_;(case h1=>(simp only[maxLen];omega));(case h2=>omega);(case h3=>(rw[zE];omega));intro gb p d ob rb Db lb;have mB:MkJ X d (.slice (J (U gb 0)) (ts.length+2) p) (ts.length+2) b:=MkJ.of ob;have a2:MkJ X d (.slice c ts.length a) ts.length b:=(MkJ.alloc K _).app mB (by omega) rb Db XI;have ax:MkJ X d (.slice (J (U ga 0)) (ts.length+1) i) (ts.length+1) b:=(MkJ.alloc mA _).app mB (by omega) rb Db (Vf hv Da (by rw[zE];omega));have bB:Q X wa d:=QF K zA rb;have zB:X<=d.1.size:=N zA bB.size;have kB:=((zj.refl (fun k=>(Value.slice c ts.length a).ownBlock=J k) wa).alloc _).grown rb (fun k e _=>e);have KB:=ze kB;have a0:=kB.heap af G;clear kB;obtain⟨r0,r1,r2,r3,r4,r5,r6,r7,r8,r9,aN⟩:=zqA a0;have rl:=zd a0;clear a0)
    |(at_builtin;refine yo rfl _ _ 55 rfl X 51 _ 11 88 underlying55 Tryz.infoJobR rfl (by decide) (.slice c ts.length a) ts.length ((List.replicate ts.length (zcG b)).flatMap tkV) rfl (MkJ.alloc a2 _) d.1.size 3 ((List.replicate 3 (zcG b)).flatMap tkV) rfl (zo _ _) rfl (jT Y9 _) (by decide) ?h1 ?h2 ?h3 ?_;(case h1=>(simp only[maxLen];omega));(case h2=>omega);(case h3=>(rw[zE];omega));intro gc M L oc rc Dc lc;have mC:MkJ X L (.slice (J (U gc 0)) (ts.length+3) M) (ts.length+3) b:=MkJ.of oc;have aA:MkJ X L (.slice c ts.length a) ts.length b:=(MkJ.alloc a2 _).app mC (by omega) rc Dc XI;have ay:MkJ X L (.slice (J (U ga 0)) (ts.length+1) i) (ts.length+1) b:=(MkJ.alloc ax _).app mC (by omega) rc Dc (Vf hv Da (by rw[zE];omega));have az:MkJ X L (.slice (J (U gb 0)) (ts.length+2) p) (ts.length+2) b:=(MkJ.alloc mB _).app mC (by omega) rc Dc (Vf K Db (by rw[zE];omega));have bC:Q X d L:=QF a2 zB rc;have KC:=ze (((zj.refl (fun k=>(Value.slice c ts.length a).ownBlock=J k) d).alloc _).grown rc (fun k e _=>e));have zC:X<=L.1.size:=N zB bC.size;have bW:Q X w L:=((aa.trans bA).trans bB).trans bC;have u:=(bW.block wb a9).trans HW;have a1:=zi a3 (zqn bW) (fun k e hx=>by have:=V k e;omega);obtain⟨-,e1,-⟩:=zc u;have aO:=zd u)
    |(at_builtin;refine yo rfl _ _ 75 rfl B 55 _ 1 24 underlying75 Tryz.infoJobs rfl (by decide) (.slice an (4*q) r) (4*q) kn rfl (World.ownsRow.alloc a1 _) L.1.size 4 [(.slice c ts.length a),(.slice (J (U ga 0)) (ts.length+1) i),(.slice (J (U gb 0)) (ts.length+2) p),(.slice (J (U gc 0)) (ts.length+3) M)] rfl (zo _ _) rfl (zdv _ _ _ _ _ _ _ _ _ _ _ _) (by decide) ?h1 ?h2 ?h3 ?_;(case h1=>(simp only[maxLen];omega));(case h2=>omega);(case h3=>(rw[zE];omega));intro gn ai wn on rn Dn aK;have a5:zj (fun k=>(Value.slice an (4*q) r).ownBlock=J k) L wn:=((zj.refl _ _).alloc _).grown rn (fun k e _=>e);have H:=a5.heap u (fun e=>zbG u a1 (by decide) e);obtain⟨-,f1,-⟩:=zc H;have ff:∀j,wn.frozen? (U wb j)=false:=(fun j=>zI H j);have aP:=zd H)
    |fail)
   go_end0;exact⟨rfl,zfN HH H4 aj a9 aw V am bW (((ac.trans KA (fun _ _ e=>e)).trans KB (fun _ _ e=>e)).trans KC (fun _ _ e=>e)) ad zC u a1 ah (by omega) aA ay az mC a5 H on Dn⟩
theorem zfW(hw:w.1[wb]?=J (.cells #[pv,lv] 77 (0,0)))(h:ZZ B w lv kn q)(hq:q<=1099511627776):
  Calls prog 35 #[(O wb)] w (Rz w (.bool true)):=by
 obtain⟨an,a2,rfl⟩:=zq h.row;have h4:=h.four;have a6:kn.length<=4398046511104:=by omega
 have m:=h.row;have b:=h.marks;generalize hK:kn.length=K at*;obtain⟨-,c1,-⟩:=zc hw;have e:=zd hw;have f:=ze m;have C:=ze b;have A:=ze hK;clear h hw m b h4 hK hq;go_in;go_wp2_with fail;go_loopw [2,3] (fun _ y wr=>∃(k:Nat),k<=K/\y=I k/\B_ w wr) (fun _ y _=>K-(intOf y).toNat);case atStart=>exact⟨0,S _,rfl,Below.refl _ _⟩
 case round=>
  obtain⟨k,hk,rfl,g⟩:=hrel;have cr:=(g.cell (p:=(U wb 1)) e).trans c1;have a9:=E e g.size;by_cases M:k<K
  ·obtain⟨v,hx⟩:∃v,kn[k]?=J v:=⟨_,List.getElem?_eq_getElem (by rw[ud A];exact M)⟩;obtain⟨n,hn,hv⟩:=ud C k v hx;obtain⟨G,D,R,-,d⟩:=f.form (by omega);injection R with T V W;subst T;obtain⟨av,r,rfl⟩:=zq hv;have s:w.cell? (U G k)=J (.slice av n r):=(by rw[(ud f).cellAt _ (by omega)];exact hx);have d1:=(g.cell (p:=(U G k)) d).trans s;have a5:=E d g.size;have t:(k:Int)<K:=(by omega);obtain⟨x,P⟩:∃x:Int,(k:Int)/4+10=x:=⟨_,rfl⟩;have l:(k:Int)/4=((k/4:Nat):Int):=(by omega);rw[<-l,P]at hv;have HV:=ze hv;have z:=ze g;clear hx V W l hv g;go_wp2_with fail;go_loopw [4] (fun y wq=>∃(j:Nat),j<=n/\y=I j/\B_ w wq) (fun y _=>n-(intOf y).toNat);case atStart=>exact⟨0,S _,rfl,z⟩
   case round=>
    obtain⟨j,hj,rfl,a⟩:=hrel;have cq:=(a.cell (p:=(U wb 1)) e).trans c1;have dq:=(a.cell (p:=(U G k)) d).trans s;have a8:=E e a.size;have a4:=E d a.size;have o:=ze a;by_cases H:j<n
    ·obtain⟨gv,F,X,-,u⟩:=HV.form (by omega);injection X with Z a0 a1;subst Z;have c:∀i,i<11->wr.cell? (U gv (j*11+i))=(tkV (zcG x))[i]?:=fun i hi=>by
      rw[a.cell (p:=(U gv (j*11+i))) u,(ud HV).cellAt _ (by omega)];exact zbl _ H hi
     have d0:Cz wr gv (j*11) (I x):=c 0 (by omega);have d1:Cz wr gv (j*11+1) (I 0):=c 1 (by omega);have d2:Cz wr gv (j*11+2) (I 0):=c 2 (by omega);have d3:Cz wr gv (j*11+3) (I 0):=c 3 (by omega);have d4:Cz wr gv (j*11+4) (I 0):=c 4 (by omega);have d5:Cz wr gv (j*11+5) (I 0):=c 5 (by omega);have d6:Cz wr gv (j*11+6) (I 0):=c 6 (by omega);have d7:Cz wr gv (j*11+7) (I 0):=c 7 (by omega);have d8:Cz wr gv (j*11+8) (I 0):=c 8 (by omega);have d9:Cz wr gv (j*11+9) (I 0):=c 9 (by omega);have a3:Cz wr gv (j*11+10) (I 0):=c 10 (by omega);have L:(j:Int)<n:=(by omega);have a7:=E u a.size;clear a0 a1 c a;go_wp2_with fail;exact⟨⟨j+1,by omega,by go_num,ud o⟩,by simp[intOf];omega⟩
    ·have L:¬(j:Int)<n:=(by omega);clear a;go_wp2_with fail;exact⟨⟨k+1,by omega,by go_num,ud o⟩,by simp[intOf];omega⟩
  ·have t:¬(k:Int)<K:=(by omega);have z:=ze g;clear g;go_wp2_with fail;go_ret;exact⟨rfl,z⟩
theorem zjK{B':Nat}{u:Y}(l:w.ownsRow B 51 11 u ts.length (ts.flatMap tkV))(hv:w.ownsRow B' 51 11 v ts.length (ts.flatMap tkV))(hl:ts.length<=1000000000):
  Calls prog 147 #[u,v] w (Rz w (.bool true)):=by
 obtain⟨V,cu,rfl⟩:=zq l;obtain⟨av,cv,rfl⟩:=zq hv;have G:=ze l;have H:=ze hv;clear l hv;go_in;go_wp2_with fail;go_loopw [4,5] (fun _ y wr=>∃(k:Nat),k<=ts.length/\y=I k/\B_ w wr) (fun _ y _=>ts.length-(intOf y).toNat);case atStart=>exact⟨0,S _,rfl,Below.refl _ _⟩
 case round=>
  obtain⟨k,hk,rfl,d⟩:=hrel;have F:=ze d;by_cases j:k<ts.length
  ·obtain⟨x,D⟩:∃x,ts[k]?=J x:=⟨_,List.getElem?_eq_getElem j⟩;obtain⟨a,M,m,-,e⟩:=G.form (by omega);injection m with n o q;subst n;obtain⟨gv,O,r,-,f⟩:=H.form (by omega);injection r with z A C;subst z;have b:∀i,i<11->wr.cell? (U a (k*11+i))=(tkV x)[i]?:=fun i g=>by
    rw[d.cell (p:=(U a (k*11+i))) e,(ud G).cellAt _ (by omega)];exact qs yd _ k x i D g
   have c:∀i,i<11->wr.cell? (U gv (k*11+i))=(tkV x)[i]?:=fun i g=>by
    rw[d.cell (p:=(U gv (k*11+i))) f,(ud H).cellAt _ (by omega)];exact qs yd _ k x i D g
   have a0:Cz wr a (k*11) (I x.kind):=b 0 (by omega);have a1:Cz wr a (k*11+1) (I x.s.t):=b 1 (by omega);have a2:Cz wr a (k*11+2) (I x.s.se):=b 2 (by omega);have a3:Cz wr a (k*11+3) (I x.s.we):=b 3 (by omega);have a4:Cz wr a (k*11+4) (I x.si):=b 4 (by omega);have a5:Cz wr a (k*11+5) (I x.tc):=b 5 (by omega);have a6:Cz wr a (k*11+6) (I x.rest):=b 6 (by omega);have a7:Cz wr a (k*11+7) (I x.ep):=b 7 (by omega);have T:Cz wr a (k*11+8) (I x.num):=b 8 (by omega);have a9:Cz wr a (k*11+9) (I x.slot):=b 9 (by omega);have K:Cz wr a (k*11+10) (I x.till):=b 10 (by omega);have b0:Cz wr gv (k*11) (I x.kind):=c 0 (by omega);have W:Cz wr gv (k*11+1) (I x.s.t):=c 1 (by omega);have X:Cz wr gv (k*11+2) (I x.s.se):=c 2 (by omega);have Z:Cz wr gv (k*11+3) (I x.s.we):=c 3 (by omega);have b4:Cz wr gv (k*11+4) (I x.si):=c 4 (by omega);have b5:Cz wr gv (k*11+5) (I x.tc):=c 5 (by omega);have b6:Cz wr gv (k*11+6) (I x.rest):=c 6 (by omega);have b7:Cz wr gv (k*11+7) (I x.ep):=c 7 (by omega);have b8:Cz wr gv (k*11+8) (I x.num):=c 8 (by omega);have b9:Cz wr gv (k*11+9) (I x.slot):=c 9 (by omega);have L:Cz wr gv (k*11+10) (I x.till):=c 10 (by omega);have h:(k:Int)<ts.length:=(by omega);have P:=E e d.size;have R:=E f d.size;clear o q A C b c d D;go_wp2_with fail;go_still (by kernel_rfl);go_wp2_with fail;exact⟨⟨k+1,by omega,by go_num,(ud F).drew⟩,by simp[intOf];omega⟩
  ·have h:¬(k:Int)<ts.length:=(by omega);clear d;go_wp2_with fail;go_ret;exact⟨rfl,F⟩
def JH(B:Nat)(w:World)(wb po r:Nat)(pv lv:Y)(q:Nat)(w':World):Prop:=∃(a:Y) (b:List Y) (Z:World) (g cap:Nat),w'=Z.setCell (U po 9) (.slice (J (U g 0)) 1 cap)/\ZZ B Z a b (q+1)/\Z.1[wb]?=J (.cells #[pv,a] 77 (0,0))/\zj (fun k=>k=wb\/lv.ownBlock=J k) w Z/\(∀k,a.ownBlock=J k->lv.ownBlock=J k\/w.1.size<=k)/\Z.ownsRow 0 138 1 (.slice (J (U g 0)) 1 cap) 1 [(O r)]/\w.1.size<=g
theorem ZZ.later(h:ZZ B w lv kn q)(a:B_ w w'):ZZ B w' lv kn q:=
 ⟨zi h.row (zj.of_below (f:=fun _=>False) a) (fun _ _ h=>h),h.four,fun j v d=>by
  obtain⟨n,b,c⟩:=h.marks j v d;exact⟨n,b,zi c (zj.of_below (f:=fun _=>False) a) (fun _ _ h=>h)⟩⟩
theorem ZZ.lt(h:ZZ B w lv kn q):∀v∈kn,∀k,v.ownBlock=J k->k<w.1.size:=fun v hv k c=>by
 obtain⟨j,b⟩:=List.getElem?_of_mem hv;obtain⟨n,-,a⟩:=h.marks j v b;exact(World.ownsRow.lt a k c).2
theorem zft{po x d r:Nat}{c:Cf}{ct mv td:Y}{ep:Int}(a:w.1[po]?=J (zL x d c ct mv td ep))(a2:w.ownsRow 0 138 1 mv 1 [(O r)])(o:Ops)(b1:ts.length<=900)(hw:w.1[wb]?=J (.cells #[pv,lv] 77 (0,0)))(ab:ZZ B w lv kn q)(aU:B<=wb)(n:q+1<=1099511627776)(ar:∀V,B_ w V->Calls prog 19 #[(O x)] V fun e V'=>∃u,e=.returned u/\V'.ownsRow V.1.size 51 11 u ts.length (ts.flatMap tkV)/\B_ V V')(ax:∀V,B_ w V->Calls prog 146 #[(O r)] V fun e V'=>∃u,e=.returned u/\V'.ownsRow V.1.size 51 11 u ts.length (ts.flatMap tkV)/\B_ V V'):
  Calls prog 81 #[(O wb),(O po),.agg (oZz 9 o)] w fun e w'=>e=.returned (.bool true)/\JH B w wb po r pv lv q w':=by
 have ae:=zd a;have b2:=zd hw;obtain⟨y0,y1,y2,M,yz⟩:=K5 w (.cells (oZz 9 o) 82) kq ye;have aw:=ze (ar _ M);have az:=fun(V:World) (hb:B_ w V)=>ze (ax V hb);obtain⟨mb,b8,aJ,_,a3⟩:=a2.form (by omega);have aQ:Hid (w.cell? (U mb 0)=J (O r)):=by
  have:=a2;rw[aJ]at this;show _=_;rw[this.cellAt 0 (by omega)];rfl
 have p0:(((w.alloc (.cells (oZz 9 o) 82)).alloc kq).alloc ye).cell? (U po 0)=J (O x):=by have n:=(M.block po ae).trans a;unfold zL at n;rw[xd n];rfl
 have a5:¬po=wb:=fun e=>by rw[e,hw]at a;unfold zL at a;injection a with h1;injection h1 with _ h1;exact absurd h1 (by decide)
 have a4:¬lv.ownBlock=J po:=fun e=>by
  obtain⟨b9,hc⟩:=zG ab.row e;rw[a]at hc;unfold zL at hc;injection hc with h1;injection h1 with _ h1;exact absurd h1 (by decide)
 have ak:=ze a;have HW:=ze hw;have H:=ze ab;have aR:=ze a4;have ao:=ze a5;go_in;have Y0:=ze y0;have aj:=ze M;have YZ:=ze yz;clear y0 y1 y2 M yz ar ax a hw ab a4 a5;go_wp2_with fail;generalize(((w.alloc (.cells (oZz 9 o) 82)).alloc kq).alloc ye)=X at*;refine aw.mono ?_;rintro e V ⟨u,rfl,af,L⟩;obtain⟨au,cu,rfl⟩:=zq af;have bb:X.1.size=w.1.size+3:=ud YZ;have F:=aj.trans (L.mono aj.size);have R:=(L.block w.1.size (by omega)).trans Y0;obtain⟨v0,-⟩:=zc R;have aC:=ze (Vn (w:=V) (by rw[<-aJ];exact(F.block po ae).trans ak) ((F.cell (p:=(U mb 0)) a3).trans aQ) (E a3 F.size));have aq:=ze R;have aE:=ze F;have aA:=ze af;have bf:=zd R;have ba:=L.size;clear af L F R aw p0;go_wp2_with fail;refine aC.mono ?_;rintro e W ⟨I,b5,rfl,b,y⟩;have P:=(y.block w.1.size (zd aq)).trans aq;have ah:=aE.trans (y.mono aE.size);obtain⟨q0,-⟩:=zc P;have g0:W.cell? (U I 0)=J (O r):=by rw[b.cellAt 0 (by omega)];rfl
 have aH:I<W.1.size:=(b.lt I rfl).2;have ay:=az W ah;have t:=ze (zi aA (zj.of_below (f:=fun _=>False) y) (fun _ _ h=>h));have ap:=ze P;have aD:=ze ah;have be:=zd P;have bh:=y.size;clear P ah b y v0 aC az aA;go_wp2_with fail;refine wp_loop_rounds 2 ?_;rw[rounds_succ];go_wp2_with fail;refine ay.mono ?_;rintro e U1 ⟨u2,rfl,ag,z⟩;obtain⟨av,cv,rfl⟩:=zq ag;have aB:=ze (zjK (zi t (zj.of_below (f:=fun _=>False) z) (fun _ _ h=>h)) ag (by omega));have ai:=ze z;have g2:Cz U1 I 0 (O r):=(z.cell (p:=(U I 0)) aH).trans g0;have aI:I<U1.1.size:=E aH z.size;clear ag z ay;go_wp2_with fail;refine aB.mono ?_;rintro e s ⟨rfl,K⟩;have g3:Cz s I 0 (O r):=(K.cell (p:=(U I 0)) aI).trans g2;have bc:I<s.1.size:=E aI K.size;have aN:=ze K;have aW:0<1:=by decide
 have aX:0+1<=maxLen:=by simp[maxLen]
 have aY:(0+1)*8<=140737488355328:=by omega
 clear K aB;go_wp2_with(first|(at_builtin;refine zO rfl _ _ 135 rfl 0 138 _ 1 8 underlying135 Tryz.infoRefP rfl (by decide) (.slice none 0 0) 0 [] rfl (World.ownsRow_nil _ _ _ _) (U s.1.size 0) 1 1 [(O r)] rfl rfl (World.news_of_block (cs:=#[(O r)]) (zo s _)) (by intro u hu;simp at hu;subst hu;rfl) aW aX aY (S _) ?_;intro g aF W4 C ad m Z A;have aS:=ze C;have aO:=ze m;have aM:=ze Z;clear C ad m Z)|go_in);have a9:B_ s (s.alloc (.cells #[(O r)] 138)):=(Below.refl _ _).alloc (Nat.le_refl _) _;have a0:B_ s W4:=a9.grown (show(s.alloc (.cells #[(O r)] 138)).grownBy W4 none from ud aO) a9.size (fun k e=>by cases e);have i:B_ W s:=ai.trans (aN.mono ai.size);have l:B_ W W4:=i.trans (a0.mono i.size);have T:B_ w W4:=aD.trans (l.mono aD.size);have bd:s.1.size<=g:=by
  rcases ud aM with h|h
  ·cases h
  ·rw[h,zE];omega
 have bi:=i.size;have ac:=(l.block w.1.size (zd ap)).trans ap;obtain⟨k0,-⟩:=zc ac;have b6:=zd ac;have a6:=zi t (zj.of_below (f:=fun _=>False) l) (fun _ _ h=>h);have A:=H.lt;have am:=ze (zir (B:=B) (X:=X.1.size) (w:=W4) ((T.block wb b2).trans HW) (H.later T) (by omega) (by omega) (by omega) aU (fun k G=>by have:=(H.row.lt k G).2;omega) (fun v hv k G=>by have:=A v hv k G;omega) ts (.slice au ts.length cu) a6 b1 n);have aK:∀k,(Value.slice au ts.length cu).ownBlock=J k->w.1.size<=k/\k<W.1.size:=fun k G=>by have:=t.lt k G;omega
 have a7:=ze aK;have a8:=ze T;clear a9 a0 i l T ac a6 A aK g0 g2 g3 q0;rw[rounds_succ];go_wp2_with fail;refine am.mono ?_;rintro e W5 ⟨rfl,b4,b3,aG,aL,aa,a1⟩;have aZ:¬(Value.slice au ts.length cu).ownBlock=J po:=fun e=>by have:=(ud a7 po e).1;omega
 have D:=aa.heap ((a8.block po ae).trans ak) (fun e=>by
  rcases e with e|e|e
  ·exact ud ao e
  ·exact ud aR e
  ·exact aZ e)
 have k9:W5.cell? (U po 9)=J mv:=by have n:=D;unfold zL at n;rw[xd n];rfl
 have bj:W5.cell? (U po 13)=J (.bool false):=by have n:=D;unfold zL at n;rw[xd n];rfl
 have bk:∀j,W5.frozen? (U po j)=false:=fun j=>by have n:=D;unfold zL at n;exact zI n j
 have b7:=zd D;have aP:=ze aG;have aT:=ze aL;have al:=ze aa;have an:=ze a1;clear aG aL aa a1 D am k0;go_wp2_with fail;go_ret;have aV:zj (fun k=>k=wb\/lv.ownBlock=J k) w W5:=(zj.of_below (f:=fun k=>k=wb\/lv.ownBlock=J k) a8).trans al (fun k G e=>by
  rcases e with e|e|e
  ·exact .inl e
  ·exact .inr e
  ·have:=(ud a7 k e).1;omega)
 have b0:=zi aS al (fun k G e=>by
  have hg:g=k:=Option.some.inj G;subst hg;rcases e with e|e|e
  ·omega
  ·have:=(H.row.lt g e).2;omega
  ·have:=(ud a7 g e).2;omega)
 have bg:=a8.size;exact⟨rfl,b4,b3,W5,g,aF,rfl,aP,aT,aV,fun k G=>(ud an k G).imp id (fun h=>by omega),b0,by omega⟩
