import Derived.Test.YtndhpgciopcncaaGreatDoorXMlz0
import Derived.Test.YtndhpgciopcncaaGreatDoorXAll1
open Nat renaming lt_of_lt_of_le → J
open Option renaming some → K
open Go.RowKit.Below renaming refl → E
open Go.RowKit renaming Below → Q
set_option linter.unusedVariables false
set_option maxRecDepth 8000
set_option maxHeartbeats 8000000
open Go.Proofs.Tryz
namespace Go.Proofs.YtndhpgciopcncaaGreatDoor
open Go.RowKit Go.Maps Go.Shelf
variable {c:Cf} {S:DS} {i:Ids} {ep:Int} {q:JM} {m:MS} {N:Nat} {w w':World}
def vi(e:Nat):ByteArray:=⟨Array.replicate e 43⟩
theorem zgy(e:Nat):(vi e).size=e:=by simp[vi,ByteArray.size]
def jS(e:Nat)(txt:ByteArray):DS:=⟨[⟨kj,vi e,e⟩,⟨kh,txt,txt.size⟩],-1,false⟩
def jS0(e:Nat):DS:=⟨[⟨kj,vi e,e⟩],-1,false⟩
theorem bl(a:Array UInt8):(⟨a⟩:ByteArray).toList=a.toList:=by rw[ByteArray.toList_eq]
theorem QI(a:ByteArray):eqS a a=true:=by simp[eqS]
theorem zlg:eqS kj kh=false:=by simp[eqS,kj,kh,bl]
theorem zfC:eqS kj vA=false:=by simp[eqS,kj,vA,bl]
theorem zpk:eqS kh vA=false:=by simp[eqS,kh,vA,bl]
theorem zpj:eqS vA kh=false:=by simp[eqS,kh,vA,bl]
theorem yY(h:S.left= -1)(a:S.down=false):zt S=false/\zr S=S:=by
 have b:zt S=false:=by unfold zt;rw[h,a];rfl
 refine⟨b,?_⟩;obtain⟨f,l,d⟩:=S;dsimp only at h a;subst h a;unfold zr;rw[b];rfl
theorem KV(e:Nat)(txt:ByteArray)(k:Nat)(r:List FS):xS (⟨kj,vi e,e⟩::⟨kh,txt,k⟩::r) kh=K 1:=by
 unfold xS xx xx;rw[zlg,QI];rfl
theorem zdB(e:Nat)(txt:ByteArray)(k:Nat):xS [⟨kj,vi e,e⟩,⟨kh,txt,k⟩] vA=none:=by
 unfold xS xx xx xx;rw[zfC,zpk];rfl
theorem zbQ(e:Nat)(txt t2:ByteArray)(k a:Nat):xS [⟨kj,vi e,e⟩,⟨kh,txt,k⟩,⟨vA,t2,a⟩] vA=K 2:=by
 unfold xS xx xx xx;rw[zfC,zpk,QI];rfl
theorem zbR(e:Nat):xS [⟨kj,vi e,e⟩] vA=none:=by
 unfold xS xx xx;rw[zfC];rfl
theorem zbS(e:Nat):xS [⟨kj,vi e,e⟩] kh=none:=by
 unfold xS xx xx;rw[zlg];rfl
theorem Jj(e:Nat)(t2:ByteArray)(a:Nat):xS [⟨kj,vi e,e⟩,⟨vA,t2,a⟩] vA=K 1:=by
 unfold xS xx xx;rw[zfC,QI];rfl
theorem zok(e:Nat)(txt:ByteArray):vk (jS e txt) kh=txt:=by unfold vk jS;rw[KV];rfl
theorem zmg(e:Nat):vk (jS0 e) kh=⟨#[]⟩:=by unfold vk jS0;rw[zbS]
theorem zoZ{e:Nat}{txt:ByteArray}(b:e<=N)(c:txt.size<=N)(d:2<=N):DOk (jS e txt) N:=by
 refine⟨by show(-1:Int)<= -1;omega,by show(-1:Int)<=9223372036854775807;omega,d,fun f a=>?_⟩;simp only[jS,List.mem_cons,List.not_mem_nil,or_false]at a;rcases a with rfl|rfl
 ·rw[zgy];exact⟨Nat.le_refl _,b⟩
 ·exact⟨Nat.le_refl _,c⟩
theorem zmT(e:Nat)(txt a:ByteArray):zcF (jS e txt) a=jS e (txt++(a++nl))/\Zh (jS e txt) a=true:=by
 obtain⟨c,g⟩:=yY (S:=jS e txt) rfl rfl;have h:zS (jS e txt) kh (a++nl)=⟨[⟨kj,vi e,e⟩,⟨kh,txt++(a++nl),txt.size⟩],-1,false⟩:=by
  rw[vd (i:=1) (f:=⟨kh,txt,txt.size⟩) c (KV e txt txt.size []) rfl,g];rfl
 obtain⟨b,d⟩:=yY (S:=⟨[⟨kj,vi e,e⟩,⟨kh,txt++(a++nl),txt.size⟩],-1,false⟩) rfl rfl;unfold zcF Zh;rw[c,h,b];refine⟨?_,rfl⟩;simp only[Bool.false_eq_true,if_false];rw[qX (i:=1) (f:=⟨kh,txt++(a++nl),txt.size⟩) b (KV e (txt++(a++nl)) txt.size []) rfl,d];rfl
theorem zpL(e:Nat)(txt a:ByteArray):zgP (jS e txt) a=jS e (a++nl)/\VE (jS e txt) a=true/\zkI (jS e txt)=false:=by
 have b:xS (jS e txt).files vA=none:=zdB e txt txt.size;have n:zkI (jS e txt)=false:=by unfold zkI;rw[b];rfl
 have g:zaW (jS e txt)=jS e txt:=by unfold zaW;rw[b];rfl
 obtain⟨a1,a2⟩:=yY (S:=jS e txt) rfl rfl;have h:zeQ (jS e txt) a=⟨[⟨kj,vi e,e⟩,⟨kh,txt,txt.size⟩,⟨vA,a++nl,0⟩],-1,false⟩:=by
  unfold zeQ;rw[g,qQ a1 b,a2];rfl
 obtain⟨c,k⟩:=yY (S:=⟨[⟨kj,vi e,e⟩,⟨kh,txt,txt.size⟩,⟨vA,a++nl,0⟩],-1,false⟩) rfl rfl;have j:zgO (jS e txt) a=⟨[⟨kj,vi e,e⟩,⟨kh,txt,txt.size⟩,⟨vA,a++nl,(a++nl).size⟩],-1,false⟩:=by
  unfold zgO;rw[h,qX (i:=2) (f:=⟨vA,a++nl,0⟩) c (zbQ e txt _ _ _) rfl,k];rfl
 obtain⟨d,l⟩:=yY (S:=⟨[⟨kj,vi e,e⟩,⟨kh,txt,txt.size⟩,⟨vA,a++nl,(a++nl).size⟩],-1,false⟩) rfl rfl;have m:zom (jS e txt) a=jS e (a++nl):=by
  unfold zom;rw[j,jv (i:=2) (f:=⟨vA,a++nl,(a++nl).size⟩) d (zbQ e txt _ _ _) rfl zpj,l];simp[kt,zlg,zfC,QI,jS]
 unfold zgP VE;rw[n,g,h,j,a1,c,d,m];exact⟨rfl,rfl,rfl⟩
theorem zjF(e:Nat)(a:ByteArray):zgP (jS0 e) a=jS e (a++nl)/\VE (jS0 e) a=true/\zkI (jS0 e)=false:=by
 have b:xS (jS0 e).files vA=none:=zbR e;have n:zkI (jS0 e)=false:=by unfold zkI;rw[b];rfl
 have g:zaW (jS0 e)=jS0 e:=by unfold zaW;rw[b];rfl
 obtain⟨a1,a2⟩:=yY (S:=jS0 e) rfl rfl;have h:zeQ (jS0 e) a=⟨[⟨kj,vi e,e⟩,⟨vA,a++nl,0⟩],-1,false⟩:=by
  unfold zeQ;rw[g,qQ a1 b,a2];rfl
 obtain⟨c,k⟩:=yY (S:=⟨[⟨kj,vi e,e⟩,⟨vA,a++nl,0⟩],-1,false⟩) rfl rfl;have j:zgO (jS0 e) a=⟨[⟨kj,vi e,e⟩,⟨vA,a++nl,(a++nl).size⟩],-1,false⟩:=by
  unfold zgO;rw[h,qX (i:=1) (f:=⟨vA,a++nl,0⟩) c (Jj e _ _) rfl,k];rfl
 obtain⟨d,l⟩:=yY (S:=⟨[⟨kj,vi e,e⟩,⟨vA,a++nl,(a++nl).size⟩],-1,false⟩) rfl rfl;have m:zom (jS0 e) a=jS e (a++nl):=by
  unfold zom;rw[j,jv (i:=1) (f:=⟨vA,a++nl,(a++nl).size⟩) d (Jj e _ _) rfl zpj,l];simp[kt,zlg,zfC,QI,jS]
 unfold zgP VE;rw[n,g,h,j,a1,c,d,m];exact⟨rfl,rfl,rfl⟩
theorem znl:Vq Qj=jS0 1/\zcP Qj=true/\zhD Qj=1:=by
 obtain⟨a1,a2⟩:=yY (S:=Qj) rfl rfl;have a:zS Qj kj zaV=⟨[⟨kj,vi 1,0⟩],-1,false⟩:=by
  rw[qQ a1 rfl,a2];rfl
 obtain⟨b,g⟩:=yY (S:=⟨[⟨kj,vi 1,0⟩],-1,false⟩) rfl rfl;have e:∀k,xS [⟨kj,vi 1,k⟩] kj=K 0:=fun k=>by unfold xS xx;rw[QI];rfl
 have c:xN ⟨[⟨kj,vi 1,0⟩],-1,false⟩ kj=jS0 1:=by
  rw[qX (i:=0) (f:=⟨kj,vi 1,0⟩) b (e 0) rfl,g];rfl
 have d:zcP Qj=true:=by unfold zcP;rw[a,a1,b];rfl
 refine⟨by unfold Vq;rw[a1,a,c];rfl,d,?_⟩;unfold zhD;rw[d,a,c];unfold vk jS0;rw[e 1];rfl
def qD(now:Int)(xs:List SX):ByteArray:=⟨(zcH now xs).toArray⟩
theorem Qn(now:Int)(xs:List SX):(qD now xs).size=(zcH now xs).length:=by simp[qD,ByteArray.size]
theorem Yt(h:Yz w)(a:B_ w w'):Yz w':=zcq h a
theorem xe.cells(h:xe w i c ep m q):w.cell? (U i.x 8)=K (I m.now)/\w.cell? (U i.x 9)=K (O i.s)/\w.cell? (U i.x 10)=K (O i.b)/\w.cell? (U i.x 11)=K (O i.j)/\w.cell? (U i.x 12)=K (.bool q.dn):=by
 refine⟨?_,?_,?_,?_,?_⟩<;>rw[xd h.head]<;>rfl
theorem Jc(h:xe w i c ep m q)(o:xX m.now)(z:∀x∈XU m.L m.Gl,okX x)(a1:m.L.length<=1000000)(a6:m.Gl.length<=50000000)(N:Nat)(hN:N<=1000000000000)(hd:DOk q.S N):
  Calls prog 73 #[(O i.x)] w fun e w'=>∃a:List SX,a.Perm (XU m.L m.Gl)/\e=.returned (.bool (VE q.S (qD m.now a)))/\xe w' i c ep m {q with st:=zeR q.S (qD m.now a) q.st,S:=zgP q.S (qD m.now a)}/\Kx i w w':=by
 obtain⟨x8,x9,-,a5,-⟩:=h.cells;have P:=h.lt;have R:=fun W (A:B_ w W)=>ze (zni (h.later A).set a1 (by omega));have X:=R w (E _ _);have Y:=R w.drew (E _ _).drew;have u:=fun(a:List SX) (v:Value) W (k:a.Perm (XU m.L m.Gl)) (A:B_ w W) (hr:SRd W v a)=>ze (zcB m.now o a (fun x hx=>z x (k.mem_iff.1 hx)) (by rw[k.length_eq];unfold XU;rw[List.length_append,List.length_map];omega) v W hr (Yt h.tab A));have t:=fun(a:List SX) W (k:a.Perm (XU m.L m.Gl)) (A:B_ w W)=>(by
  obtain⟨fs,hj⟩:=(h.later A).jrn;have a7:(qD m.now a).size<=20000000000:=by
   rw[Qn];have h1:=Qo o (fun x hx=>z x (k.mem_iff.1 hx));have h2:=k.length_eq;unfold XU at h2;rw[List.length_append,List.length_map]at h2;omega
  exact(zjB hj (qD m.now a) N (by omega) hd).mono fun e w' ⟨he,hE⟩=>(⟨he,(h.later A).putJrn hj hE⟩:e=.returned (.bool (VE q.S (qD m.now a)))/\xe w' i c ep m {q with st:=zeR q.S (qD m.now a) q.st,S:=zgP q.S (qD m.now a)}/\Kx i W w'):Calls prog 133 #[(O i.j),.string (qD m.now a)] W fun e w'=>e=.returned (.bool (VE q.S (qD m.now a)))/\xe w' i c ep m {q with st:=zeR q.S (qD m.now a) q.st,S:=zgP q.S (qD m.now a)}/\Kx i W w')
 have C:=ze h.dlt;clear h R hd z;go_in;go_wp2_with fail;go_region_held3 (fun w'=>w'.cell? (U i.x 8)=K (I m.now)/\w'.cell? (U i.x 9)=K (O i.s)/\w'.cell? (U i.x 11)=K (O i.j)) (go_keep) (first
  |(go_at_call 134;(first|(with_reducible refine(ud X).mono ?_)|(with_reducible refine(ud Y).mono ?_));rintro e V ⟨a,v,k,rfl,l,d⟩;have f:B_ w V:=⟨d.os,d.tape,d.output,d.size,d.block⟩;have v8:=(f.cell (p:=(U i.x 8)) P).trans x8;have v9:=(f.cell (p:=(U i.x 9)) P).trans x9;have a4:=(f.cell (p:=(U i.x 11)) P).trans a5;have M:=J P f.size;have Z:=u a v V k f l;have a0:=u a v V.drew k f.drew (l.later (E _ _).drew);have B:=ze f;have r:=ze k;obtain⟨va,vc,a2⟩:=l.slice;subst a2;clear f d l k u)
  |(go_at_call 108;(first|(with_reducible refine(ud Z).mono ?_)|(with_reducible refine(ud a0).mono ?_));rintro e U9 ⟨rfl,b⟩;have g:B_ V U9:=⟨b.os,b.tape,b.output,b.size,b.block⟩;have u8:=(g.cell (p:=(U i.x 8)) M).trans v8;have u9:=(g.cell (p:=(U i.x 9)) M).trans v9;have a8:=(g.cell (p:=(U i.x 11)) M).trans a4;have n:B_ w U9:=B.trans (g.mono B.size);have lU:=J M g.size;have D:=ze (t a U9 r n);have F:=ze (t a U9.drew r n.drew);unfold qD at D F;have G:=ze n;clear g b n t)
  |(go_at_call 133;(with_reducible refine(ud D).mono ?_);rintro e T ⟨rfl,y,H⟩;obtain⟨t8,t9,-,a3,-⟩:=y.cells;have HM:=ze y;have HK:=ze ((Kx.below G C).trans H);clear y H)
  |(go_at_call 133;(with_reducible refine(ud F).mono ?_);rintro e T ⟨rfl,y,H⟩;obtain⟨t8,t9,-,a3,-⟩:=y.cells;have HM:=ze y;have HK:=ze ((Kx.below G.drew C).trans H);clear y H))
 all_goals go_wp2_with fail
 all_goals go_ret
 all_goals exact⟨a,r,rfl,HM,HK⟩
def X6(q:JM)(a:ByteArray):JM:={q with S:=zcF q.S a}
def zqp(q:JM)(a:ByteArray):JM:={q with st:=zeR q.S a q.st,S:=zgP q.S a}
def Zm(w':World)(i:Ids)(c:Cf)(ep:Int)(m:MS)(q:JM)(now:Int)(xs:List SX)(e:Ending):Prop:=
 (Zh q.S (qD now xs)=false/\e=.returned (I 13)/\xe w' i c ep m {X6 q (qD now xs)with dn:=true})
 \/(Zh q.S (qD now xs)=true/\e=.returned (I 0)/\((zaf (zcF q.S (qD now xs)) q.st=false/\xe w' i c ep (m.took now xs) (X6 q (qD now xs)))\/(zaf (zcF q.S (qD now xs)) q.st=true/\∃a:List SX,a.Perm (XU (m.took now xs).L (m.took now xs).Gl)/\xe w' i c ep (m.took now xs) (zqp (X6 q (qD now xs)) (qD now a)))))
theorem YS{base:Nat}{v:Value}{xs:List SX}(h:xe w i c ep m q)(x:Kx i w w')(hv:Zd w base v xs):Zd w' base v xs:=zi hv x.kept (fun k p e=>by
 obtain⟨u,o⟩:=zG hv p;obtain⟨fs,s⟩:=h.jrn;have r:¬X7 i k:=fun e=>by
  rcases h.otag k e with⟨l,y,n,b,f⟩|⟨es,cl,t⟩
  ·have g:=kK o b;rcases f with a|a|a|a<;>(rw[a]at g;exact absurd g (by decide))
  ·rw[o]at t;cases t
 have hn:¬Zg i.j i.d fs k:=fun e=>by
  obtain⟨l,y,n,b,f⟩:=s.tag k e;have g:=kK o b;rcases f with a|a|a<;>(rw[a]at g;exact absurd g (by decide))
 rcases e with(e|e|e|e|e)|e
 ·exact r (.inl e)
 ·exact r (.inr (.inl e))
 ·exact r (.inr (.inr e))
 ·exact hn (.inl e)
 ·exact hn (.inr (.inl e))
 ·exact hn (.inr (.inr (s.fsB▸e))))
theorem zmA(m:MS)(now:Int)(xs:List SX):(m.took now xs).L.length<=m.L.length+xs.length/\(m.took now xs).Gl.length<=m.Gl.length+xs.length:=by
 have h:=V6 xs (m.Gl,m.L);exact⟨h.2,h.1⟩
theorem znd(h:DOk S N)(a:ByteArray):DOk (zcF S a) (N+a.size+3):=by
 have b:=jA h kh (a++nl);rw[KM]at b;unfold zcF;split
 ·exact vo b (by omega)
 ·exact vo (YI b kh) (by omega)
theorem XD(h:xe w i c ep m q)(now:Int)(C:xX now)(xs:List SX)(a0:∀x∈xs,okX x)(a1:∀x∈XU (m.took now xs).L (m.took now xs).Gl,okX x)(aB:xs.length<=1000)(az:m.L.length<=900000)(aA:m.Gl.length<=49000000)(N:Nat)(hN:N<=900000000000)(hd:DOk q.S N)(al:0<=q.st/\q.st<=1099511627776)(base:Nat)(v:Value)(hv:Zd w base v xs):
  Calls prog 52 #[(O i.x),I now,v] w fun e w'=>Zm w' i c ep m q now xs e/\Kx i w w':=by
 obtain⟨ad,cap,rfl⟩:=hv.slice;have aC:(qD now xs).size<=200000:=by
  rw[Qn];have:=Qo C a0;omega
 obtain⟨X,P⟩:∃X,w.alloc (.cells #[I now,.slice ad xs.length cap] 190)=X:=⟨_,rfl⟩;have z:B_ w X:=by rw[<-P];exact(E _ _).alloc (Nat.le_refl _) _
 have Y:X.1[w.1.size]?=K (.cells #[I now,.slice ad xs.length cap] 190 (0,0)):=by rw[<-P];exact zo _ _
 have r:=h.later z;have a4:Zd X base (.slice ad xs.length cap) xs:=zY hv z;have a2:=fun W (hW:B_ X W)=>ze (zcB now C xs a0 (by omega) _ W (a4.rd.later hW) (Yt r.tab hW));have H:=a2 X (E _ _);have M:=a2 X.drew (E _ _).drew;have n:=fun W (hW:B_ X W)=>(by
  obtain⟨fs,hj⟩:=(r.later hW).jrn;exact(znP hj (qD now xs) N (by omega) hd).mono fun e w' ⟨he,av,h1,h2,h3⟩=>(⟨he,(r.later hW).putJrn hj ⟨av,h1,jf h2,h3⟩⟩:e=.returned (.bool (Zh q.S (qD now xs)))/\xe w' i c ep m (X6 q (qD now xs))/\Kx i W w'):Calls prog 107 #[(O i.j),.string (qD now xs)] W fun e w'=>e=.returned (.bool (Zh q.S (qD now xs)))/\xe w' i c ep m (X6 q (qD now xs))/\Kx i W w')
 obtain⟨-,-,-,am,-⟩:=r.cells;obtain⟨b0,b1,-⟩:=zc Y;have lx:=r.lt;have lb:=zd Y;have o:=ze r;have G:=ze a4;have ay:=ze Y;have af:=ze P;have D:=ze (Kx.below z h.dlt);have A:=znd hd (qD now xs);have B:∀W,B_ X W->¬xm W i w.1.size:=fun W hW e=>by
  have h1:=h.foot_lt w.1.size (by
   rcases e with e|e
   ·exact .inl e
   ·right;obtain⟨fs,hj⟩:=h.jrn;have h2:fsB W i.d=fsB w i.d:=by
     unfold fsB;rw[(hW.trans (E _ _)).cell (p:=(U i.d 0)) r.dlt,z.cell (p:=(U i.d 0)) h.dlt]
    rw[<-h2];exact e)
  omega
 have f:=ze B;unfold Zm;clear h z Y r a4 P hv a2 B hd;cases ak:Zh q.S (qD now xs)
 ·simp only[ak]at n;go_in;go_wp2_with fail;rw[ud af];go_region_held3 (fun w'=>w'.cell? (U i.x 11)=K (O i.j)/\w'.cell? (U w.1.size 0)=K (I now)/\w'.cell? (U w.1.size 1)=K (.slice ad xs.length cap)) (go_keep) (first
   |(go_at_call 108;(first|(with_reducible refine(ud H).mono ?_)|(with_reducible refine(ud M).mono ?_));rintro e V ⟨rfl,b⟩;have g:B_ X V:=⟨b.os,b.tape,b.output,b.size,b.block⟩;have ax:=(g.cell (p:=(U i.x 11)) lx).trans am;have v0:=(g.cell (p:=(U w.1.size 0)) lb).trans b0;have v1:=(g.cell (p:=(U w.1.size 1)) lb).trans b1;have s:=J lb g.size;have t:=ze (n V g);have u:=ze (n V.drew g.drew);unfold qD at t u;have a:=ze g;clear g b n H M)
   |(go_at_call 107;(with_reducible refine(ud t).mono ?_);rintro e T ⟨rfl,l,k⟩;obtain⟨-,-,-,a6,a7⟩:=l.cells;have a8:=zI l.head 12;have t0:=(zD (i:=0) k.kept (ud f _ a) s).trans v0;have t1:=(zD (i:=1) k.kept (ud f _ a) s).trans v1;have lT:=J s k.size;have a5:=l.lt;have F:=ze (YS (o.later a) k (zY G a));have HM:=ze l;have HK:=ze ((D.trans (Kx.below a o.dlt)).trans k);clear l k)
   |(go_at_call 107;(with_reducible refine(ud u).mono ?_);rintro e T ⟨rfl,l,k⟩;obtain⟨-,-,-,a6,a7⟩:=l.cells;have a8:=zI l.head 12;have t0:=(zD (i:=0) k.kept (ud f _ a.drew) s).trans v0;have t1:=(zD (i:=1) k.kept (ud f _ a.drew) s).trans v1;have lT:=J s k.size;have a5:=l.lt;have F:=ze (YS (o.later a.drew) k (zY G a.drew));have HM:=ze l;have HK:=ze ((D.trans (Kx.below a.drew o.dlt)).trans k);clear l k))
  all_goals go_wp2_with fail
  all_goals go_ret
  all_goals exact⟨.inl ⟨trivial,rfl,HM.setDown.1⟩,HK.trans HM.setDown.2⟩
 ·simp only[ak]at n;have aw:=zmA m now xs;have ae:=fun T (hT:xe T i c ep m (X6 q (qD now xs))) (hR:Zd T base (.slice ad xs.length cap) xs)=>ze (zmw hT now xs (fun x hx=>(a0 x hx).key) (by omega) (by omega) base _ hR);have aa:=fun T (hT:xe T i c ep (m.took now xs) (X6 q (qD now xs)))=>(by
   obtain⟨fs,hj⟩:=hT.jrn;exact ze (zlE hj (N+(qD now xs).size+3) (by omega) A al):Hid (Calls prog 110 #[(O i.j)] T (Rz T (.bool (zaf (zcF q.S (qD now xs)) q.st)))))
  have au:=fun T (hT:xe T i c ep (m.took now xs) (X6 q (qD now xs)))=>ze (Jc hT C a1 (by omega) (by omega) (N+(qD now xs).size+3) (by omega) A);clear a0 a1 A al aw;go_in;go_wp2_with fail;rw[ud af];go_region_held3 (fun w'=>w'.cell? (U i.x 11)=K (O i.j)/\w'.cell? (U w.1.size 0)=K (I now)/\w'.cell? (U w.1.size 1)=K (.slice ad xs.length cap)) (go_keep) (first
   |(go_at_call 108;(first|(with_reducible refine(ud H).mono ?_)|(with_reducible refine(ud M).mono ?_));rintro e V ⟨rfl,b⟩;have g:B_ X V:=⟨b.os,b.tape,b.output,b.size,b.block⟩;have ax:=(g.cell (p:=(U i.x 11)) lx).trans am;have v0:=(g.cell (p:=(U w.1.size 0)) lb).trans b0;have v1:=(g.cell (p:=(U w.1.size 1)) lb).trans b1;have s:=J lb g.size;have t:=ze (n V g);have u:=ze (n V.drew g.drew);unfold qD at t u;have a:=ze g;clear g b n H M)
   |(go_at_call 107;(with_reducible refine(ud t).mono ?_);rintro e T ⟨rfl,l,k⟩;obtain⟨-,-,-,a6,a7⟩:=l.cells;have a8:=zI l.head 12;have t0:=(zD (i:=0) k.kept (ud f _ a) s).trans v0;have t1:=(zD (i:=1) k.kept (ud f _ a) s).trans v1;have lT:=J s k.size;have a5:=l.lt;have F:=ze (YS (o.later a) k (zY G a));have HM:=ze l;have HK:=ze ((D.trans (Kx.below a o.dlt)).trans k);clear l k)
   |(go_at_call 107;(with_reducible refine(ud u).mono ?_);rintro e T ⟨rfl,l,k⟩;obtain⟨-,-,-,a6,a7⟩:=l.cells;have a8:=zI l.head 12;have t0:=(zD (i:=0) k.kept (ud f _ a.drew) s).trans v0;have t1:=(zD (i:=1) k.kept (ud f _ a.drew) s).trans v1;have lT:=J s k.size;have a5:=l.lt;have F:=ze (YS (o.later a.drew) k (zY G a.drew));have HM:=ze l;have HK:=ze ((D.trans (Kx.below a.drew o.dlt)).trans k);clear l k))
  all_goals go_wp2_with fail
  all_goals(
   refine(ae T HM F).mono ?_
   rintro e U9 ⟨rfl,y,ah⟩
   obtain⟨-,-,-,aD,-⟩:=y.cells
   have lu:=y.lt
   have ap:=aa U9 y
   have ab:=ze y
   have ao:=ze (HK.trans ah)
   clear y ah ae aa
   go_wp2_with fail
   refine ap.mono ?_
   rintro e Z ⟨rfl,a3⟩
   have ac:=ze (ab.later a3)
   have a9:=ze (ao.trans (Kx.below a3 ab.dlt))
   clear a3
   cases aj:zaf (zcF q.S (qD now xs)) q.st
   ·go_wp2_with fail
    go_ret
    exact⟨.inr ⟨trivial,rfl,.inl ⟨aj,ac⟩⟩,a9⟩
   ·go_wp2_with fail
    refine(au Z ac).mono ?_
    rintro e R ⟨ys,hp,rfl,ai,ag⟩
    have ar:=ze hp
    have aq:=ze ai
    have an:=ze (a9.trans ag)
    clear hp ai ag
    go_wp2_with fail
    go_ret
    exact⟨.inr ⟨trivial,rfl,.inr ⟨aj,ys,ar,aq⟩⟩,an⟩)
