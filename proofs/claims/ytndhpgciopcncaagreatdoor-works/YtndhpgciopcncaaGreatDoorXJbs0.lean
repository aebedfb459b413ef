import Derived.Test.YtndhpgciopcncaaGreatDoorXIng0
import Derived.Test.YtndhpgciopcncaaGreatDoorXMlz5
import Derived.Test.YtndhpgciopcncaaGreatDoorXMlz6
import Derived.Test.YtndhpgciopcncaaGreatDoorXMlz7
import Derived.Test.YtndhpgciopcncaaGreatDoorXSml0
import Derived.Test.YtndhpgciopcncaaGreatDoorXRef7
open Option renaming some → J
open Option renaming none → K
open Go renaming Value → E
set_option linter.unusedVariables false
set_option maxRecDepth 8000
set_option maxHeartbeats 4000000
open Go.Proofs.Tryz
namespace Go.Proofs.YtndhpgciopcncaaGreatDoor
open Go.RowKit Go.Maps Go.Shelf
variable {av:Array E} {rl:Bool} {c:Cf} {i:Ids} {e eo ep kd n now now' rest se si slot t tc we:Int} {j:Jk} {L:LV} {T1 TL TL':List (Jk×Tsk)} {Bs Gl:List (Sg×Unit)} {Q1 QL:List (Tok×Lse)} {l:List Tk} {g:Lse} {m:MS} {B d fc k nn po q:Nat} {x:Nm} {m':RM} {v:SV} {s:Sg} {p:Sg×SV} {ct gv kv mv nv pv td tv:E} {V X w:World}
theorem zpB{dn:Bool}(h:qk dn w i c ep m)(n:(m.QL.map (fun q=>q.2.job)).Nodup)(f:m.TL.length<=1000000):
  Calls prog 19 #[(O i.x)] w fun e w'=>∃ts a cap,Xa m.TL ts/\e=.returned (.slice a ts.length cap)/\w'.ownsRow w.1.size 51 11 (.slice a ts.length cap) ts.length (ts.flatMap (XM m.QL))/\B_ w w':=by
 have o:=h.lt;obtain⟨-,-,-,-,-,-,-,-,-,-,k⟩:=h.cells;have g:=ze (zlC h.board n f);clear h;go_in;go_wp2_with fail;refine g.mono ?_;rintro e w1 ⟨ts,a,cap,l,rfl,b,d⟩;have HR:=ze b;have j:=ze d;clear b d g;go_wp2_with fail;go_ret;exact⟨ts,a,cap,l,rfl,HR,j⟩
theorem Kf(h:zF w i c ep m)(t:Tok)(b:t.wf)(a:zU m.QL t=K):
  Calls prog 20 #[(O i.x),.agg #[I t.ep,I t.num]] w (Rz w (I 8)):=
 zfz h.own t b a
theorem zdf(h:zF w i c ep m)(t:Tok)(b:t.wf)(a:zU m.QL t=K):
  Calls prog 21 #[(O i.x),.agg #[I t.ep,I t.num]] w (Rz w (I 8)):=
 zlh h.own t b a
theorem ziL(h:zF w i c ep m)(n:Int)(hn:n<1\/1000<n\/100000<m.now+n)(a:0<=m.now/\m.now<=100000):
  Calls prog 26 #[(O i.x),I n] w (Rz w (I 5)):=
 zge h.own n hn a
theorem ziG(h:zF w i c ep m)(o:c.ok)(se tm val:Int)(b:0<=se/\se<4)(l:0<=tm/\tm<=m.now)(f:m.now-c.la<=tm)(a:m.now<=100000)(d: -2147483648<=val/\val<=2147483647)(p:0<=xh m.L/\xh m.L<=1000)(j:zox m.L)(g:∀k:Nat,k<c.n->zU m.Gl (qK c se tm k)=K)(e:c.qu<xh m.L+(1+2*yv c m.L ⟨se,tm,val⟩ c.n)):
  Calls prog 27 #[(O i.x),I se,I tm,i_ val] w (Rz w (I 4)):=
 zfZ h.own o se tm val b l f a d p j g e
theorem Jd(h:zF w i c ep m)(b:c.ok)(d:0<=xh m.L/\xh m.L<=1000)(a:m.L.length<=100000):
  Calls prog 15 #[(O i.x)] w (Rz w (.agg (mZz c m ep))):=
 znW h.own b d a
theorem zgc(h:zF w i c ep m)(e:c.ok)(a:0<=m.now/\m.now<=100000)(t se we:Int)(f: -1<=t/\t<c.n)(b:0<=se/\se<4)(d:0<=we/\we<=100000):
  Calls prog 57 #[(O i.x),I t,I se,I we] w (Rz w (.tuple #[.agg #[I (kQ c m.now m.Gl m.L t se we).1.cnt,I (kQ c m.now m.Gl m.L t se we).1.sum,i_ (kQ c m.now m.Gl m.L t se we).1.mn,i_ (kQ c m.now m.Gl m.L t se we).1.mx],I (kQ c m.now m.Gl m.L t se we).2])):=
 znV h.own e a t se we f b d
theorem ziJ(h:zF w i c ep m)(d:(m.QL.map (fun q=>q.2.job)).Nodup)(b:m.TL.length<=1000000):
  Calls prog 19 #[(O i.x)] w fun e w'=>∃ts a cap,Xa m.TL ts/\e=.returned (.slice a ts.length cap)/\w'.ownsRow w.1.size 51 11 (.slice a ts.length cap) ts.length (ts.flatMap (XM m.QL))/\B_ w w':=
 zpB h.own d b
theorem zgf(h:zF w i c ep m)(j:c.ok)(n:Int)(hn:1<=n/\n<=1000)(f:0<=m.now/\m.now+n<=100000)(u:zmH 1000000 100000 m.TL m.QL)(y:∀p∈m.L,inR c p.1)(g:m.L.length<=2000)(k:∀TL' QL',zcC (m.now+n) m.TL m.QL TL' QL'->TL'.length<=50000):
  Calls prog 26 #[(O i.x),I n] w fun e w'=>e=.returned (I 0)/\∃b a TL',zF w' i c ep {m with now:=m.now+n,TL:=TL',QL:=a}/\Kx i w w'/\zcC (m.now+n) m.TL m.QL b a/\(∀p∈a,m.now+n<p.2.til)/\qN c {m with now:=m.now+n,TL:=b,QL:=a} TL':=by
 obtain⟨q,txt,ns,d⟩:=h;obtain⟨C,D⟩:=d.lens j;refine(zpD d.at_ j n hn f u y g k d.hist.okA (by omega) _ (by omega) d.dok ⟨d.st.1,by have:=d.st.2;omega⟩).mono ?_;rintro e w' ⟨A,v⟩;rcases A with⟨l,_⟩|⟨_,B,F,b,a,TL',t,z,o,s,r⟩
 ·rw[d.lay]at l;cases l
 ·exact⟨B,b,a,TL',d.after j (.ticked m ns n b TL' a hn.1 f.2 o s r) (by simp) (by simp) (by simp) (by simp) rfl rfl rfl t z,v,o,s,r⟩
theorem zeC(l:List Int):xX (vY l):=by rw[zkG];unfold xX wrap64;omega
theorem zev(b:Cl->Cl->Int):∀(l:List Cl) (o:Option Cl) (z:Cl),l.foldl (jz b) o=J z->o=J z\/z∈l
 |[],o,z,h=> .inl h
 |x::l,o,z,h=>by
  rcases zev b l _ z h with a|a
  ·unfold jz at a;split at a
   ·injection a with a;exact .inr (by simp[a])
   ·split at a
    ·injection a with a;exact .inr (by simp[a])
    ·injection a with a;exact .inl (by rw[a])
  ·exact .inr (by simp[a])
theorem zeF{zs:List Cl}(h:∀z∈zs,(-2147483648<=z.mn/\z.mn<=2147483647)/\(-2147483648<=z.mx/\z.mx<=2147483647))(a:Cl->Cl->Int):(-2147483648<=((yi a zs).getD qL).mn/\((yi a zs).getD qL).mn<=2147483647)/\(-2147483648<=((yi a zs).getD qL).mx/\((yi a zs).getD qL).mx<=2147483647):=by
 cases c:yi a zs with
 |none=>show((-2147483648:Int)<=0/\(0:Int)<=2147483647)/\((-2147483648:Int)<=0/\(0:Int)<=2147483647);omega
 |some z=>
  rcases zev a zs K z c with b|b
  ·cases b
  ·exact h z b
theorem zjX{z:Cl}(h:z∈xM c L se we k):∃p∈L,p.2.cl=z:=by
 unfold xM qV at h;obtain⟨j,_,a⟩:=List.mem_filterMap.1 h;cases b:vf L ⟨c.F k,se,we*qj c k+(j:Int)⟩with
 |none=>rw[b]at a;cases a
 |some v=>rw[b]at a;injection a with a;exact⟨_,jj b,a⟩
theorem zoa(h:∀x∈XU L Gl,okX x)(s:Sg)(d:s.wf)(se we:Int)(k:Nat):okX (s,⟨3,xP (xM c L se we k)⟩):=by
 have a:∀z∈xM c L se we k,(-2147483648<=z.mn/\z.mn<=2147483647)/\(-2147483648<=z.mx/\z.mx<=2147483647):=fun z e=>by
  obtain⟨p,b,rfl⟩:=zjX e;have:=h p (List.mem_append_left _ b);exact⟨this.mn,this.mx⟩
 exact⟨d,by show xX 3;unfold xX;omega,zeC _,zeC _,(zeF a KO).1,(zeF a KP).2⟩
theorem zbH(s:Sg)(a:s.wf)(st:Int)(b:0<=st/\st<=9):okX (s,⟨st,qL⟩):=
 ⟨a,by show xX st;unfold xX;omega,by show xX 0;unfold xX;omega,by show xX 0;unfold xX;omega,by show(-2147483648:Int)<=0/\(0:Int)<=2147483647;omega,by show(-2147483648:Int)<=0/\(0:Int)<=2147483647;omega⟩
theorem ziQ(e:c.ok)(r:MOk c ep m)(h:∀x∈XU m.L m.Gl,okX x){tm val:Int}(d:0<=se/\se<4)(i:0<=tm/\tm<=100000)(a: -2147483648<=val/\val<=2147483647):(∀x∈yI c m.Gl m.L ⟨se,tm,val⟩,okX x)/\(yI c m.Gl m.L ⟨se,tm,val⟩).length<=1000:=by
 have w:=e.n1;have y:=e.n4;have b:=fun(t:Int) (k: -1<=t) (q:t<c.n)=>zjN e (x:=⟨se,tm,val⟩) d i k q;refine⟨fun x g=>?_,?_⟩
 ·rcases List.mem_cons.1 g with rfl|g
  ·have o:=(b (-1) (by omega) (by omega)).1;unfold zmW;cases l:vf m.L (xt c ⟨se,tm,val⟩)with
   |none=>exact⟨o,by show xX 1;unfold xX;omega,by show xX 1;unfold xX;omega,by show xX val;unfold xX;omega,a,a⟩
   |some v=>
    obtain⟨_,B,C,D,F⟩:=MOk.rawAt r.seg e l
    have p:=h _ (List.mem_append_left _ (jj l))
    have z:=p.mn;have A:=p.mx
    dsimp only at z A
    refine⟨o,by show xX 1;unfold xX;omega,by show xX (1+v.cl.cnt);unfold xX;omega,by show xX (val+v.cl.sum);unfold xX;omega,?_,?_⟩
    ·show-2147483648<=(if v.cl.mn<val then v.cl.mn else val)/\(if v.cl.mn<val then v.cl.mn else val)<=2147483647
     split<;>omega
    ·show-2147483648<=(if val<v.cl.mx then v.cl.mx else val)/\(if val<v.cl.mx then v.cl.mx else val)<=2147483647
     split<;>omega
  ·unfold QT at g;obtain⟨s,f,rfl⟩:=List.mem_map.1 g;have f:=(List.mem_filter.1 f).1;unfold qd at f;obtain⟨j,u,rfl⟩:=List.mem_map.1 f;exact zbH _ (b (j:Int) (by omega) (by have:=List.mem_range.1 u;omega)).1 2 (by omega)
 ·have k:(QT c m.Gl m.L ⟨se,tm,val⟩ c.n).length<=c.n:=by
   unfold QT;rw[List.length_map];refine Nat.le_trans (List.length_filter_le _ _) ?_;unfold qd;simp
  show(zmW c m.L ⟨se,tm,val⟩::QT c m.Gl m.L ⟨se,tm,val⟩ c.n).length<=1000;rw[List.length_cons];omega
theorem ziP(c:Cf)(Gl:List (Sg×Unit))(L:LV)(y:Nm):∀x∈yI c Gl L y,okN x:=fun x a=>by
 unfold yI at a;rcases List.mem_cons.1 a with rfl|a
 ·intro e;have b:(1:Int)=2\/(1:Int)=4:=e;omega
 ·unfold QT at a;obtain⟨s,_,rfl⟩:=List.mem_map.1 a;exact fun _=>rfl
theorem zlK(c:Cf)(Gl:List (Sg×Unit))(L:LV)(y:Nm):((yI c Gl L y).map (·.1)).Nodup:=by
 have e:(yI c Gl L y).map (·.1)=xt c y::(qd c y.se y.tm c.n).filter (fun s=>(stG Gl L s).st==0):=by
  unfold yI QT;rw[List.map_cons,List.map_map];congr 1;exact List.map_id _
 have i:∀s∈qd c y.se y.tm c.n,0<=s.t:=fun s d=>by
  unfold qd at d;obtain⟨j,_,rfl⟩:=List.mem_map.1 d;show(0:Int)<=(j:Int);omega
 rw[e,List.nodup_cons];refine⟨fun g=>?_,?_⟩
 ·have k:=i _ (List.mem_filter.1 g).1;have l:(xt c y).t= -1:=rfl;omega
 ·have h:(qd c y.se y.tm c.n).Nodup:=by
   unfold qd;rw[List.nodup_iff_pairwise_ne,List.pairwise_map];refine List.Pairwise.imp ?_ (List.nodup_iff_pairwise_ne.1 List.nodup_range);intro a b f d;have:(a:Int)=(b:Int):=congrArg Sg.t d;omega
  exact h.filter _
theorem znZ(h:¬(v.st=2\/v.st=4)):∀y∈([(s,v)]:List SX),okN y:=fun y a e=>by
 rw[List.mem_singleton]at a;subst a;exact absurd e h
theorem znU(h:zF w i c ep m)(j:c.ok)(se tm val:Int)(a:0<=se/\se<4)(f:0<=tm/\tm<=m.now)(o:m.now-c.la<=tm)(s:m.now<=100000)(b: -2147483648<=val/\val<=2147483647)(T:0<=xh m.L/\xh m.L<=1000)(u:zox m.L)(r:∀k:Nat,k<c.n->zU m.Gl (qK c se tm k)=K)(l:xh m.L+(1+2*yv c m.L ⟨se,tm,val⟩ c.n)<=c.qu)(C:m.L.length<=1000000)(D:∀p∈m.L,p.1.t= -1->p.2.cl.small):
  Calls prog 27 #[(O i.x),I se,I tm,i_ val] w fun e w'=>e=.returned (I 0)/\zF w' i c ep {m with L:=kY c m.L ⟨se,tm,val⟩}/\Kx i w w':=by
 obtain⟨q,txt,ns,d⟩:=h;obtain⟨R,S⟩:=d.lens j;have N:=d.hist.sok j;obtain⟨g,v⟩:=ziQ j N.ok d.hist.okA a ⟨f.1,by omega⟩ b;have B:=zgB (c:=c) (Gl:=m.Gl) (L:=m.L) (x:=⟨se,tm,val⟩) u r;refine(zqo d.at_ j se tm val a f o s b T u r l D g (Qm _ _ _ d.hist.okA g) v (by omega) (by omega) _ (by omega) d.dok ⟨d.st.1,by have:=d.st.2;omega⟩).mono ?_;rintro e w' ⟨P,G⟩;obtain⟨Q,U,F,M⟩:=vU P (d.lay _);have A:m.took m.now (yI c m.Gl m.L ⟨se,tm,val⟩)={m with L:=kY c m.L ⟨se,tm,val⟩}:=by unfold MS.took;rw[B]
 have H:({m with L:=kY c m.L ⟨se,tm,val⟩}:MS).L=(m.took m.now (yI c m.Gl m.L ⟨se,tm,val⟩)).L:=by rw[A]
 have y:({m with L:=kY c m.L ⟨se,tm,val⟩}:MS).Gl=(m.took m.now (yI c m.Gl m.L ⟨se,tm,val⟩)).Gl:=by rw[A]
 have z:xe w' i c ep {m with L:=kY c m.L ⟨se,tm,val⟩} U:=by rw[<-A];exact M
 exact⟨Q,d.after j (.added m ns ⟨se,tm,val⟩ a f o b l) g (ziP c m.Gl m.L _) (zlK c m.Gl m.L _) v rfl H y F z,G⟩
theorem zli(h:zF w i c ep m)(t:Tok)(s:t.wf)(j:zU m.QL t=J g)(p:g.job.wf){x:Tsk}(k:zU m.TL g.job=J x)(a:0<=m.now/\m.now<=100000)(f:0<=x.tc/\x.tc<=1000000)(d:m.TL.length<=50000):
  Calls prog 21 #[(O i.x),.agg #[I t.ep,I t.num]] w fun e w'=>e=.returned (I 0)/\zF w' i c ep {m with TL:=qM m.TL g.job (x.failed m.now),QL:=xB m.QL t}/\Kx i w w':=by
 obtain⟨q,txt,ns,b⟩:=h;have r:qk false w i c ep m:=by have:=b.at_.own;rw[b.up]at this;exact this
 refine(zhY r t s j p k a f d).mono ?_;rintro e w' ⟨o,n,l⟩;exact⟨o,b.quiet (.failed m ns t g x j k) rfl rfl rfl n l⟩
theorem zga(h:zF w i c ep m)(r:c.ok)(slot:Int)(o:0<=slot/\slot<c.s)(f:0<=m.now/\m.now<=100000)(A:∀p∈m.TL,Vs c m.now p.2)(n:m.QL.length<=100000)(g:0<=m.num/\m.num<=1000000000000000)(l:xX ep)(D:∀q∈m.QL,q.1.num<=m.num)(F:0<=xh m.L/\xh m.L<=1000):
  Calls prog 18 #[(O i.x),I slot] w fun e w'=>(e=.returned (.tuple #[zgg,I 6])/\B_ w w'/\m.QL.any (fun p=>p.2.slot==slot)=true)\/(e=.returned (.tuple #[zgg,I 7])/\B_ w w'/\(∀p∈m.TL,kO m.QL m.now p.2=false)/\m.QL.any (fun p=>p.2.slot==slot)=false)\/∃p,m.QL.any (fun p=>p.2.slot==slot)=false/\p∈m.TL/\kO m.QL m.now p.2=true/\YW c m.now (ka (xh m.L) c.qu) m.QL m.TL p.2/\e=.returned (.tuple #[.agg #[I p.2.kd,I p.2.s.t,I p.2.s.se,I p.2.s.we,I p.2.si,I p.2.tc,I p.2.rest,I ep,I (m.num+1),I slot,I (m.now+c.le)],I 0])/\zF w' i c ep {m with num:=m.num+1,QL:=qM m.QL ⟨ep,m.num+1⟩ ⟨p.2.kd,p.2.s,slot,m.now+c.le⟩}/\Kx i w w':=by
 obtain⟨q,txt,ns,j⟩:=h;have z:=j.hist.sok r;have B:qk false w i c ep m:=by have:=j.at_.own;rw[j.up]at this;exact this
 refine(zpC B r slot o f A (fun p C=>(z.ok.tg p C).key) n g l F).mono ?_;rintro e w' (⟨a,b,d⟩|⟨a,b,d,k⟩|⟨a,_⟩|⟨p,a,b,d,k,_,u,v,y⟩)
 ·exact .inl ⟨a,b,d⟩
 ·exact .inr (.inl ⟨a,b,d,k⟩)
 ·cases a
 ·exact .inr (.inr ⟨p,a,b,d,k,u,j.quiet (.taken m ns p slot b d) rfl rfl rfl v y⟩)
theorem zcY(h:zF w i c ep m)(l:c.ok)(t:Tok)(X:t.wf)(B:zU m.QL t=J g)(T:g.job.wf)(s:Sg)(si tc rest:Int)(G:zU m.TL g.job=J ⟨true,s,si,tc,rest⟩)(F:inR c s)(k:Nat)(C:s.t=k)(D:m.L.length<=1000)(S:m.Gl.length<=1000000000)(n:∀p∈km m.L s ⟨3,xP (xM c m.L s.se s.we k)⟩,inR c p.1)(b:(km m.L s ⟨3,xP (xM c m.L s.se s.we k)⟩).length<=2000)(j:0<=m.now/\m.now<=100000)(v:m.TL.length<=50000):
  Calls prog 20 #[(O i.x),.agg #[I t.ep,I t.num]] w fun e w'=>e=.returned (I 0)/\∃TL',zF w' i c ep {m with L:=km m.L s ⟨3,xP (xM c m.L s.se s.we k)⟩,Gl:=m.Gl,TL:=TL',QL:=xB m.QL t}/\Kx i w w'/\qN c {m with L:=km m.L s ⟨3,xP (xM c m.L s.se s.we k)⟩,Gl:=m.Gl,TL:=xB m.TL g.job,QL:=xB m.QL t} TL':=by
 obtain⟨q,txt,ns,a⟩:=h;obtain⟨U,V⟩:=a.lens l;have f:∀y∈([(s,⟨3,xP (xM c m.L s.se s.we k)⟩)]:List SX),okX y:=fun y H=>by
  rw[List.mem_singleton]at H;subst H;exact zoa a.hist.okA s F.1 _ _ _
 have r:m.took m.now [(s,⟨3,xP (xM c m.L s.se s.we k)⟩)]={m with L:=km m.L s ⟨3,xP (xM c m.L s.se s.we k)⟩,Gl:=m.Gl}:=by unfold MS.took vj;simp only[List.foldl_cons,List.foldl_nil];unfold YE;rfl
 have d:(m.took m.now [(s,⟨3,xP (xM c m.L s.se s.we k)⟩)]).L=km m.L s ⟨3,xP (xM c m.L s.se s.we k)⟩:=by rw[r]
 have u:(m.took m.now [(s,⟨3,xP (xM c m.L s.se s.we k)⟩)]).Gl=m.Gl:=by rw[r]
 refine(zhP a.at_ l t X B T _ G [(s,⟨3,xP (xM c m.L s.se s.we k)⟩)] (fun W Q=>ze (zhR (a.at_.later Q).own l s F k C)) j v f (Qm _ _ _ a.hist.okA f) (by simp) (by omega) (by omega) _ (by omega) a.dok ⟨a.st.1,by have:=a.st.2;omega⟩ (by rw[d];exact n) (by rw[d];exact b)).mono ?_;rintro e w' ⟨P,N⟩;rcases P with⟨z,_⟩|⟨_,R,Y,TL',M,A,o⟩
 ·rw[a.lay]at z;cases z
 ·rw[r]at A o;exact⟨R,TL',a.after l (.rolled m ns t g s si tc rest k TL' B G C o) f (znZ (by show¬((3:Int)=2\/(3:Int)=4);omega)) (by simp) (by simp) rfl d.symm u.symm M A,N,o⟩
theorem Vu(h:zF w i c ep m)(o:c.ok)(t:Tok)(U:t.wf)(B:zU m.QL t=J g)(Q:g.job.wf)(s:Sg)(si tc rest:Int)(D:zU m.TL g.job=J ⟨false,s,si,tc,rest⟩)(T:inR c s)(C:m.L.length<=1000)(P:m.Gl.length<=1000000000)(l:∀p∈xB m.L s,inR c p.1)(b:(xB m.L s).length<=2000)(j:0<=m.now/\m.now<=100000)(v:m.TL.length<=50000):
  Calls prog 20 #[(O i.x),.agg #[I t.ep,I t.num]] w fun e w'=>e=.returned (I 0)/\∃TL',zF w' i c ep {m with L:=xB m.L s,Gl:=qM m.Gl s (),TL:=TL',QL:=xB m.QL t}/\Kx i w w'/\qN c {m with L:=xB m.L s,Gl:=qM m.Gl s (),TL:=xB m.TL g.job,QL:=xB m.QL t} TL':=by
 obtain⟨q,txt,ns,a⟩:=h;obtain⟨R,S⟩:=a.lens o;have f:∀y∈([(s,⟨4,qL⟩)]:List SX),okX y:=fun y k=>by
  rw[List.mem_singleton]at k;subst k;exact zbH s T.1 4 (by omega)
 have r:m.took m.now [(s,⟨4,qL⟩)]={m with L:=xB m.L s,Gl:=qM m.Gl s ()}:=by unfold MS.took vj;simp only[List.foldl_cons,List.foldl_nil];unfold YE;rfl
 have d:(m.took m.now [(s,⟨4,qL⟩)]).L=xB m.L s:=by rw[r]
 have u:(m.took m.now [(s,⟨4,qL⟩)]).Gl=qM m.Gl s ():=by rw[r]
 refine(zhP a.at_ o t U B Q _ D [(s,⟨4,qL⟩)] (fun W M=>ze (zhQ (a.at_.later M).own s)) j v f (Qm _ _ _ a.hist.okA f) (by simp) (by omega) (by omega) _ (by omega) a.dok ⟨a.st.1,by have:=a.st.2;omega⟩ (by rw[d];exact l) (by rw[d];exact b)).mono ?_;rintro e w' ⟨H,G⟩;rcases H with⟨z,_⟩|⟨_,N,V,TL',F,A,n⟩
 ·rw[a.lay]at z;cases z
 ·rw[r]at A n;exact⟨N,TL',a.after o (.reclaimed m ns t g s si tc rest TL' B D n) f (fun y k _=>by rw[List.mem_singleton]at k;subst k;rfl) (by simp) (by simp) rfl d.symm u.symm F A,G,n⟩
def zoE(t:Tok):List E:=[I t.ep,I t.num]
structure Shp where
 p:Nat
 i:Ids
 d:Nat
 ct:E
 nv:E
 kv:E
 uv:E
section
variable {w:World} {B:Nat} {s:Shp} {c:Cf} {ep:Int} {m:MS} {sn:Int} {ns:List Nm} {ks:List Tok} {us:List Int}
end
theorem SOk.tsk(h:SOk c ep m nn):∀p∈m.TL,Vs c m.now p.2:=fun p d=>by
 have b:=h.ok.tg p d;have a:=h.ok.mem_inR b.mem;exact⟨a.2.1,a.2.2.1,a.2.2.2,b.si⟩
theorem SOk.qn(h:SOk c ep m nn):∀q∈m.QL,q.1.num<=m.num:=fun q a=>(h.ok.leas q a).num.2
def Wt(L:LV)(s:Sg):Prop:=∃v,(s,v)∈L/\v.st=2
def Pub(L:LV)(s:Sg):Prop:=∃v,(s,v)∈L/\v.st=3
structure znf(c:Cf)(now:Int)(L:LV)(ns:List Nm)(rl:Bool)(s:Sg):Prop where
 roll:rl=true->∀k:Nat,s.t=k->∀x∈ns,zT c s.t x=s->¬Wt L (zT c (c.F k) x)
 recl:rl=false->(s.we+1)*c.wh s.t+c.keep s.t<=now/\∀x∈ns,zT c s.t x=s->∀k:Nat,k<c.n->c.F k=s.t->¬Wt L (zT c k x)
structure QA(c:Cf)(m:MS)(ns:List Nm):Prop where
 tm:∀x∈ns,0<=x.tm/\x.tm<=m.now/\0<=x.se/\x.se<4/\ -2147483648<=x.val/\x.val<=2147483647
 keys:∀x∈ns,∀t:Int,-1<=t->t<c.n->zT c t x∈zw m.L\/zT c t x∈zx m.Gl
 has:∀s∈zw m.L,∃x∈ns,zT c s.t x=s
 gone:∀x∈ns,∀k:Nat,k<c.n->zT c (c.F k) x∈zx m.Gl->zT c k x∈zx m.Gl\/Pub m.L (zT c k x)
 over:∀s∈zx m.Gl,(s.we+1)*c.wh s.t+c.keep s.t<=m.now
 cell:∀p∈m.L,p.2.st≠2->IsC (fun x=>zT c p.1.t x=p.1) ns p.2.cl
 tg:∀p∈m.TL,znf c m.now m.L ns p.2.rl p.2.s
section
variable {c:Cf} {ep:Int} {m:MS} {ns:List Nm}
theorem jY(hn:(zw L).Nodup){u:SV}(h:(s,u)∈L)(k:(s,v)∈L):u=v:=by
 have b:zU L s=J u:=xF hn h;have a:zU L s=J v:=xF hn k;rw[b]at a;injection a
theorem Zw(h:p∈L):p.1∈zw L:=List.mem_map.2 ⟨p,h,rfl⟩
theorem JE(hn:(zw L).Nodup)(h:Wt L s):s∈zw L/\(stL L s).st=2:=by
 obtain⟨v,hv,b⟩:=h;have a:=Zw hv;have:=xl a;rw[jY hn this hv];exact⟨a,b⟩
theorem jO(c:Cf)(k:Nat):c.wh (k:Int)=c.W k:=by
 unfold Cf.wh xp;rw[if_neg (by omega)];simp
theorem zmZ(e:c.ok)(a:c.fits)(i:0<=x.tm)(b:k<c.n):x.tm/c.wh (c.F k)*c.wh (c.F k)/c.W k=x.tm/c.W k:=by
 obtain⟨q,g,f⟩:=a.quot k b;have d:=a.down k b;have h:=(e.wh d.1 (by omega)).1;rw[f,Int.mul_comm (x.tm/c.wh (c.F k)),Int.mul_ediv_mul_of_pos _ _ (by omega),Int.ediv_ediv_of_nonneg (by omega)]
theorem zeA(b:c.ok)(d:c.fits)(e:0<=x.tm)(a:k<c.n):zT c k x∈kP c (zT c (c.F k) x):=by
 unfold kP VL;rw[List.map_map];refine List.mem_map.2 ⟨k,List.mem_filter.2 ⟨by simpa using a,by simp[zT]⟩,?_⟩;show(⟨(k:Int),x.se,x.tm/c.wh (c.F k)*c.wh (c.F k)/c.W k⟩:Sg)=zT c k x;rw[zmZ b d e a];unfold zT;rw[jO]
theorem vu(d:c.ok)(f:MOk c ep m)(e:m.now-c.la<=x.tm)(a: -1<=t)(b:t<c.n):zT c t x∉zx m.Gl:=fun h=>ZU d a b e (f.seg.goc _ h)
theorem zbI(e:c.ok)(g:MOk c ep m)(f:m.now-c.la<=x.tm)(a: -1<=t)(b:t<c.n):¬Pub m.L (zT c t x):=fun⟨v,hv,d⟩=>ZU e a b f (g.seg.pubc _ hv d)
theorem zbV{now:Int}:∀(a:List Sg) {T:List (Jk×Tsk)} {p:Jk×Tsk},p∈a.foldl (yr now) T->p∈T\/∃s∈a,p.2.rl=true/\p.2.s=s
 |[],T,p,h=> .inl h
 |y::a,T,p,h=>by
  rcases zbV a h with h|⟨s,b,h⟩
  ·unfold yr at h;split at h
   ·exact .inl h
   ·rcases yB h with rfl|⟨h,_⟩
    ·exact .inr ⟨y,by simp,rfl,rfl⟩
    ·exact .inl h
  ·exact .inr ⟨s,by simp[b],h⟩
theorem zbT{now:Int}:∀(a:List Sg) {T:List (Jk×Tsk)} {p:Jk×Tsk},p∈a.foldl (yV now) T->p∈T\/∃s∈a,p.2.rl=false/\p.2.s=s
 |[],T,p,h=> .inl h
 |y::a,T,p,h=>by
  rcases zbT a h with h|⟨s,b,h⟩
  ·unfold yV at h;split at h
   ·exact .inl h
   ·rcases yB h with rfl|⟨h,_⟩
    ·exact .inr ⟨y,by simp,rfl,rfl⟩
    ·exact .inl h
  ·exact .inr ⟨s,by simp[b],h⟩
theorem QA.post(q:c.ok)(C:c.fits)(a:kL c m.now m.L m.Gl)(h:QA c m ns)(d:qN c m TL'):QA c {m with TL:=TL'} ns:=by
 obtain⟨Bs,A,B,O,H,I,rfl⟩:=d.to;refine⟨h.tm,h.keys,h.has,h.gone,h.over,h.cell,fun p d=>?_⟩;rcases zbT B d with d|⟨s,u,j,l⟩
 ·rcases zbV A d with d|⟨s,u,j,l⟩
  ·exact h.tg p d
  ·rw[j,l];refine⟨fun _ k r x w i v=>?_,fun e=>by cases e⟩;obtain⟨g,f⟩:=(H s).1 u;obtain⟨D,z⟩:=JE a.nl v;have t:k<c.n:=by
    have:=(a.inr _ (xl g)).2.2.1;simp only at this;omega
   have b:s∈zx Bs:=(O s).2 ⟨_,D,z,by
    have:=zeA q C (h.tm x w).1 t;rw[<-r,i]at this;exact this⟩
   unfold jd at f;simp only[Bool.and_eq_true,Option.isNone_iff_eq_none]at f;exact xO.1 f.1.1 b
 ·rw[j,l];refine⟨fun e=>(by cases e),fun _=>?_⟩;obtain⟨g,f⟩:=(I s).1 u;have b:=a.inr _ (xl g);unfold ja at f;simp only[Bool.and_eq_true,Bool.not_eq_true',beq_eq_false_iff_ne,ne_eq,decide_eq_true_eq]at f;obtain⟨⟨S,R⟩,F⟩:=f;refine⟨R,fun x w i k r o v=>?_⟩;obtain⟨D,z⟩:=JE a.nl v;have N:zT c k x∈kP c s:=by
   have:=zeA q C (h.tm x w).1 r;rw[o,i]at this;exact this
  unfold Yd at F;have M:((jx c s).filter (fun x=>(stL m.L x.1).st==2)).length=0:=by
   have:=of_decide_eq_true (show decide ((((jx c s).filter (fun x=>(stL m.L x.1).st==2)).length:Int)=0)=true from by simpa using F)
   omega
  have P:=(Zt q b (zT c k x)).2 N;obtain⟨y,Q,G⟩:=List.mem_map.1 P;have:y∈(jx c s).filter (fun x=>(stL m.L x.1).st==2):=List.mem_filter.2 ⟨Q,by rw[G];simpa using z⟩;rw[List.eq_nil_of_length_eq_zero M]at this;simp at this
theorem VS{T:List (Jk×Tsk)}{k:Jk}{x:Tsk}(b:zU T k=J x){p:Jk×Tsk}(a:p∈qM T k (x.failed now)):∃q∈T,q.2.rl=p.2.rl/\q.2.s=p.2.s:=by
 rcases yB a with rfl|⟨a,_⟩
 ·exact⟨_,zP b,rfl,rfl⟩
 ·exact⟨p,a,rfl,rfl⟩
theorem zeq(h:zcC now TL QL T1 Q1):∀p∈T1,∃q∈TL,q.2.rl=p.2.rl/\q.2.s=p.2.s:=by
 induction h with
 |nil=>exact fun p a=>⟨p,a,rfl,rfl⟩
 |step k l m f j=>
  intro p a;obtain⟨q,g,b,c⟩:=VS f a;obtain⟨r,i,d,e⟩:=j q g;exact⟨r,i,d.trans b,e.trans c⟩
theorem znf.mono(h:znf c now L ns rl s)(hn:now<=now'):znf c now' L ns rl s:=
 ⟨h.roll,fun e=>⟨by have:=(h.recl e).1;omega,(h.recl e).2⟩⟩
theorem znf.live{g:LV}(h:znf c now L ns rl s)(i:∀y,Wt g y->Wt L y):znf c now g ns rl s:=
 ⟨fun e k b x f d a=>h.roll e k b x f d (i _ a),fun e=>⟨(h.recl e).1,fun x f d k b j a=>(h.recl e).2 x f d k b j (i _ a)⟩⟩
theorem QA.ticked(h:QA c m ns)(hn:m.now<=now')(g:∀p∈T1,∃q∈m.TL,q.2.rl=p.2.rl/\q.2.s=p.2.s)(num:Int):QA c {m with now:=now',num:=num,TL:=T1,QL:=Q1} ns:=
 ⟨fun x i=>by have:=h.tm x i;exact⟨this.1,by show x.tm<=now';omega,this.2.2⟩,h.keys,h.has,h.gone,fun s f=>by have:=h.over s f;show _<=now';omega,h.cell,fun p d=>by
  obtain⟨q,e,a,b⟩:=g p d;have:=(h.tg q e).mono hn;rw[a,b]at this;exact this⟩
end
section
variable {c:Cf} {ep:Int} {m:MS} {ns:List Nm}
theorem zar:(s,v)∈km L s v:=by
 unfold km;by_cases h:s∈zw L
 ·rw[if_pos h];obtain⟨p,a,e⟩:=List.mem_map.1 (show s∈L.map (·.1)from h);exact List.mem_map.2 ⟨p,a,by rw[if_pos e]⟩
 ·rw[if_neg h];simp
theorem zas(b:p∈L)(a:p.1≠s):p∈km L s v:=by
 unfold km;by_cases h:s∈zw L
 ·rw[if_pos h];exact List.mem_map.2 ⟨p,b,by rw[if_neg a]⟩
 ·rw[if_neg h];simp[b]
theorem XQ(a:p∈kY c L x):p=(xt c x,⟨1,ya x.val ((vf L (xt c x)).map (·.cl))⟩)\/(p∈L/\p.1≠xt c x)\/∃j:Nat,j<c.n/\p=(zT c (j:Int) x,⟨2,qL⟩)/\zT c (j:Int) x∉zw L:=by
 rcases Zo x c.n _ a with a|⟨j,b,e,hn⟩
 ·rcases qG a with a|a
  ·exact .inl a
  ·exact .inr (.inl a)
 ·exact .inr (.inr ⟨j,b,e,fun d=>hn (xU.2 (.inl d))⟩)
theorem JF(b:p∈L)(a:p.1≠xt c x):p∈kY c L x:=jC x c.n _ (zas b a)
theorem zht(h:s∈zw L):s∈zw (kY c L x):=by
 have a:s∈zw (yg c L x):=by unfold yg;exact xU.2 (.inl h)
 obtain⟨p,b,e⟩:=List.mem_map.1 (show s∈(yg c L x).map (·.1)from a);subst e;exact Zw (jC x c.n _ b)
theorem zng{y:Sg}(h:Wt (kY c L x) y):Wt L y\/∃j:Nat,j<c.n/\y=zT c (j:Int) x/\y∉zw L:=by
 obtain⟨v,hv,d⟩:=h;rcases XQ hv with e|⟨hv,_⟩|⟨j,f,e,hn⟩
 ·injection e with a b;subst b;simp at d
 ·exact .inl ⟨v,hv,d⟩
 ·injection e with a b;exact .inr ⟨j,f,a,by rw[a];exact hn⟩
theorem zdl{L:LV}(f:kL c m.now m.L m.Gl)(j:c.ok)(hv: -2147483648<=x.val/\x.val<=2147483647){P:Nm->Prop}[DecidablePred P](g:P x)(h:∀o,vf m.L (xt c x)=J o->IsC P ns o.cl)(i:vf m.L (xt c x)=K->∀y∈ns,¬P y):IsC P (ns++[x]) (ya x.val ((vf m.L (xt c x)).map (·.cl))):=by
 cases b:vf m.L (xt c x)with
 |none=>
  have:=(IsC.zero (i b)).add g
  have e:znh qL x.val=ya x.val K:=by
   simp only[znh,qL,ya,Int.zero_add,true_or,if_true];rw[show wrap64 x.val=x.val by unfold wrap64;omega]
  rw[e]at this
  exact this
 |some o=>
  obtain⟨a,k,l,n,p⟩:=MOk.rawAt f j b
  have:=(h o b).add g
  have e:znh o.cl x.val=ya x.val (J o.cl):=by
   have d:¬o.cl.cnt=0:=(by omega);simp only[znh,ya,d,false_or];rw[show wrap64 (o.cl.sum+x.val)=x.val+o.cl.sum by unfold wrap64;omega,Int.add_comm o.cl.cnt];congr 1
   ·by_cases a:o.cl.mn<x.val
    ·rw[if_pos a,if_neg (by omega)]
    ·rw[if_neg a];split<;>omega
   ·by_cases a:x.val<o.cl.mx
    ·rw[if_pos a,if_neg (by omega)]
    ·rw[if_neg a];split<;>omega
  rw[e]at this
  exact this
theorem QA.added(C:c.ok)(W:c.fits)(q:MOk c ep m)(h:QA c m ns)(Z:0<=x.se/\x.se<4)(hx:0<=x.tm/\x.tm<=m.now)(R:m.now-c.la<=x.tm)(hv: -2147483648<=x.val/\x.val<=2147483647):
  QA c {m with L:=kY c m.L x} (ns++[x]):=by
 have f:∀{y:Nm},y∈ns++[x]->y∈ns\/y=x:=fun a=>by
  rcases List.mem_append.1 a with a|a
  ·exact .inl a
  ·exact .inr (List.mem_singleton.1 a)
 have z:∀t:Int,-1<=t->t<c.n->zT c t x∉zx m.Gl:=fun t r w=>vu C q R r w;have a0:=C.n1;have F:∀y,Pub m.L y->Pub (kY c m.L x) y:=fun y ⟨v,G,I⟩=>⟨v,JF G (fun e=>by
  have h4:=(q.seg.raw _ G (by rw[show y=xt c x from e];rfl)).1;simp only at h4;omega),I⟩
 --no waiting segment of an elder number is new
 have H:∀y∈ns,∀t:Int,-1<=t->t<c.n->Wt (kY c m.L x) (zT c t y)->Wt m.L (zT c t y):=fun y a t r w B=>by
  rcases zng B with B|⟨j,Y,e,hn⟩
  ·exact B
  ·exfalso;rcases h.keys y a t r w with d|d
   ·exact hn d
   ·rw[e]at d;exact z j (by omega) (by omega) d
 have i:∀s:Sg,s∈zw m.L->c.clo m.now s->zT c s.t x≠s:=fun s d P e=>by
  have b:=q.seg.inr _ (xl d);exact ZU C b.2.1 b.2.2.1 R (by rw[e];exact P)
 refine⟨fun y a=>?_,fun y a t r w=>?_,fun s T=>?_,fun y a k d X=>?_,h.over,fun p g A=>?_,fun p g=>?_⟩
 ·rcases f a with a|rfl
  ·exact h.tm y a
  ·exact⟨hx.1,hx.2,Z.1,Z.2,hv⟩
 ·rcases f a with a|rfl
  ·exact(h.keys y a t r w).imp zht id
  ·left;by_cases U:t= -1
   ·subst U;have r:xt c y∈zw (yg c m.L y):=(by unfold yg;exact xU.2 (.inr rfl));obtain⟨p,g,e⟩:=List.mem_map.1 (show xt c y∈(yg c m.L y).map (·.1)from r);show xt c y∈_;rw[<-e];exact Zw (jC y c.n _ g)
   ·have:=XR (c:=c) y c.n (yg c m.L y) t.toNat (by omega);rw[show((t.toNat:Nat):Int)=t by omega]at this;exact this
 ·obtain⟨p,g,rfl⟩:=List.mem_map.1 (show s∈(kY c m.L x).map (·.1)from T);rcases XQ g with rfl|⟨g,_⟩|⟨j,Y,rfl,_⟩
  ·exact⟨x,by simp,rfl⟩
  ·obtain⟨y,a,e⟩:=h.has _ (Zw g);exact⟨y,by simp[a],e⟩
  ·exact⟨x,by simp,rfl⟩
 ·have M:=W.down k d;rcases f a with a|rfl
  ·exact(h.gone y a k d X).imp id (F _)
  ·exact absurd X (z _ M.1 (by omega))
 ·rcases XQ g with rfl|⟨g,S⟩|⟨j,Y,rfl,_⟩
  ·refine zdl (L:=m.L) q.seg C hv rfl (fun o u=>?_) (fun u y a e=>?_)
   ·have D:=jj u;have r:=(q.seg.raw _ D rfl).1;exact h.cell _ D (by simp only at r ⊢;omega)
   ·have V:zT c (-1) y=xt c x:=e;rcases h.keys y a (-1) (by omega) (by omega)with d|d
    ·exact yT.1 u (V▸d)
    ·exact z (-1) (by omega) (by omega) (show xt c x∈_ from V▸d)
  ·refine(h.cell p g A).skip (fun e=>?_);have b:=q.seg.inr p g;by_cases U:p.1.t= -1
   ·exact S (by rw[<-e,U];rfl)
   ·rcases q.seg.tier p g (by have:=b.2.1;omega)with w|I
    ·exact A w
    ·exact zbI C q R b.2.1 b.2.2.1 ⟨p.2,by rw[e];exact g,I⟩
  ·exact absurd rfl A
 ·have u:=q.tg p g;have b:=q.seg.inr _ (xl u.mem);have O:=h.tg p g;refine⟨fun e k d y a l B=>?_,fun e=>⟨(O.recl e).1,fun y a l k d M B=>?_⟩⟩
  ·have Q:k<c.n:=(by have:=b.2.2.1;simp only at this;omega);have N:=W.down k Q;rcases f a with a|rfl
   ·exact O.roll e k d y a l (H y a _ N.1 (by omega) B)
   ·exact i _ u.mem u.clo l
  ·rcases f a with a|rfl
   ·exact(O.recl e).2 y a l k d M (H y a _ (by omega) (by omega) B)
   ·exact i _ u.mem u.clo l
theorem zoP{q y v:Int}(e:1<=q):y/q=v↔v*q<=y/\y<v*q+q:=by
 constructor
 ·intro h;subst h;have a:=Int.emod_add_mul_ediv y q;have b:=Int.emod_nonneg y (show q≠0 by omega);have c:=Int.emod_lt_of_pos y (show 0<q by omega);rw[Int.mul_comm]at a;omega
 ·rintro⟨a,b⟩;have c:v<=y/q:=(Int.le_ediv_iff_mul_le (by omega)).2 a;have d:y/q<v+1:=(Int.ediv_lt_iff_lt_mul (by omega)).2 (by rw[Int.add_mul,Int.one_mul];exact b);omega
theorem QA.rolled(hc:c.ok)(hf:c.fits)(Q:MOk c ep m)(h:QA c m ns)(I:(ns.length:Int)<9223372036854775808)(hx:zU m.TL j=J ⟨true,s,si,tc,rest⟩)(H:s.t=k)(Q1:List (Tok×Lse)):
  QA c {m with L:=km m.L s ⟨3,xP (xM c m.L s.se s.we k)⟩,TL:=xB m.TL j,QL:=Q1} ns:=by
 have ho:=Q.tg _ (zP hx);have hR:=(h.tg _ (zP hx)).roll rfl;have g:s∈zw m.L:=ho.mem;have S:=Q.seg.inr _ (xl g);have W:(stL m.L s).st=2:=ho.roll rfl;have A:k<c.n:=by have:=S.2.2.1;simp only at this;omega
 have hF:=hf.down k A;have a1:=(hc.wh hF.1 (show c.F k<c.n by omega)).1;obtain⟨q,V,hq⟩:=hf.quot k A;have B:qj c k=q:=by
  unfold qj;rw[jO,hq,Int.mul_ediv_cancel_left _ (by omega)]
 have o:∀x∈ns,(x.se=s.se/\s.we*q<=x.tm/c.wh (c.F k)/\x.tm/c.wh (c.F k)<s.we*q+q)↔zT c s.t x=s:=fun x b=>by
  have Z:=(h.tm x b).1;rw[<-zoP V,Int.ediv_ediv_of_nonneg (by omega),<-hq,H];obtain⟨st,ss,sw⟩:=s;simp only at H ⊢;unfold zT;rw[jO];subst H;simp only[Sg.mk.injEq,true_and]
 have l:¬Pub m.L s:=fun⟨v,hv,h3⟩=>by rw[jY Q.seg.nl (xl g) hv]at W;omega
 have u:IsC (fun x=>zT c s.t x=s) ns (xP (xM c m.L s.se s.we k)):=by
  unfold xM;rw[B];have r:((q.toNat:Nat):Int)=q:=by omega
  have:=(zcl (L:=m.L) (wd:=c.wh (c.F k)) (f:=c.F k) (se:=s.se) (a:=s.we*q) I q.toNat (fun i hi=>?_)).1
  ·rw[r]at this;exact this.congr o
  ·have a0:(i:Int)<q:=(by omega);have d:∀x:Nm,(x.se=s.se/\x.tm/c.wh (c.F k)=s.we*q+i)↔zT c (c.F k) x=⟨c.F k,s.se,s.we*q+i⟩:=fun x=>by
    unfold zT;simp only[Sg.mk.injEq,true_and]
   have P:∀x∈ns,(x.se=s.se/\x.tm/c.wh (c.F k)=s.we*q+i)->zT c s.t x=s:=fun x b e=>(o x b).1 ⟨e.1,by omega,by omega⟩;refine⟨fun v hv=>?_,fun hn x b e=>?_⟩
   ·have C:=jj hv;obtain⟨y,D,e⟩:=h.has _ (Zw C);have R:=(d y).2 e;have U:v.st≠2:=fun G=>hR k H y D (P y D R) ⟨v,by rw[(d y).1 R];exact C,G⟩;have hC:=h.cell _ C U;refine⟨hC.congr (fun x _=>(d x).symm),fun Z=>qS.1 Z y D R⟩
   ·have Y:=(d x).1 e;rcases h.keys x b (c.F k) hF.1 (by omega)with z|z
    ·exact yT.1 hn (Y▸z)
    ·have hs:=P x b e;have O:zT c (k:Int) x=s:=(by rw[<-H];exact hs);rcases h.gone x b k A z with w|w
     ·rw[O]at w;exact Q.seg.disj _ (xl g) w
     ·rw[O]at w;exact l w
 have X:∀y,Wt (km m.L s ⟨3,xP (xM c m.L s.se s.we k)⟩) y->Wt m.L y:=fun y ⟨v,hv,G⟩=>by
  rcases qG hv with e|⟨hv,_⟩
  ·injection e with Y e2;subst e2;simp at G
  ·exact⟨v,hv,G⟩
 refine⟨h.tm,fun x b t h1 G=>(h.keys x b t h1 G).imp (fun z=>xU.2 (.inl z)) id,fun y D=>?_,fun x b k' T w=>?_,h.over,fun p M N=>?_,fun p M=>((h.tg p (xg.1 M).1).live X)⟩
 ·rcases xU.1 D with D|rfl
  ·exact h.has y D
  ·exact h.has _ g
 ·rcases h.gone x b k' T w with z|⟨v,hv,h3⟩
  ·exact .inl z
  ·right;by_cases e:zT c (k':Int) x=s
   ·rw[e];exact⟨_,zar,rfl⟩
   ·exact⟨v,zas hv e,h3⟩
 ·rcases qG M with rfl|⟨M,_⟩
  ·exact u
  ·exact h.cell p M N
theorem QA.reclaimed(M:c.ok)(N:c.fits)(C:MOk c ep m)(h:QA c m ns)(G:zU m.TL j=J ⟨false,s,si,tc,rest⟩)(Q1:List (Tok×Lse)):
  QA c {m with L:=xB m.L s,Gl:=qM m.Gl s (),TL:=xB m.TL j,QL:=Q1} ns:=by
 have I:=C.tg _ (zP G);have A:=(h.tg _ (zP G)).recl rfl;have D:s∈zw m.L:=I.mem;have n:∀y,y∈zw m.L->y≠s->y∈zw (xB m.L s):=fun y f u=>by
  obtain⟨p,d,rfl⟩:=List.mem_map.1 (show y∈m.L.map (·.1)from f);exact Zw (xg.2 ⟨d,u⟩)
 have z:∀y,Wt (xB m.L s) y->Wt m.L y:=fun y ⟨v,hv,i⟩=>⟨v,(xg.1 hv).1,i⟩;refine⟨h.tm,fun x b t H i=>?_,fun y f=>?_,fun x b k B g=>?_,fun y f=>?_,fun p d q=>h.cell p (xg.1 d).1 q,fun p d=>((h.tg p (xg.1 d).1).live z)⟩
 ·by_cases e:zT c t x=s
  ·exact .inr (xz.2 (.inr e))
  ·exact(h.keys x b t H i).imp (fun a=>n _ a e) (fun a=>xz.2 (.inl a))
 ·obtain⟨p,d,rfl⟩:=List.mem_map.1 (show y∈(xB m.L s).map (·.1)from f);exact h.has _ (Zw (xg.1 d).1)
 ·by_cases e:zT c (k:Int) x=s
  ·exact .inl (xz.2 (.inr e))
  ·have o:Pub m.L (zT c (k:Int) x)->Pub (xB m.L s) (zT c (k:Int) x):=fun⟨v,hv,r⟩=>⟨v,xg.2 ⟨hv,e⟩,r⟩;rcases xz.1 g with g|g
   ·exact(h.gone x b k B g).imp (fun a=>xz.2 (.inl a)) o
   ·have l:c.F k=s.t:=(by rw[<-g];rfl);have w:=A.2 x b (by rw[<-l];exact g) k B l;rcases h.keys x b k (by omega) (by omega)with a|a
    ·right;refine o ⟨_,xl a,?_⟩;rcases C.seg.tier _ (xl a) (by show(0:Int)<=k;omega)with i|r
     ·exact absurd ⟨_,xl a,i⟩ w
     ·exact r
    ·exact .inl (xz.2 (.inl a))
 ·rcases xz.1 f with f|rfl
  ·exact h.over y f
  ·exact A.1
theorem QA.act(e:c.ok)(f:c.fits){m':MS}{ns':List Nm}(j:SOk c ep m ns.length)(h:QA c m ns)(l:(ns.length:Int)<9223372036854775808)(A:VJ c ep m ns m' ns'):QA c m' ns':=by
 cases A with
 |same=>exact h
 |added x d w y z F=>exact h.added e f j.ok d w y z
 |ticked n u TL' r hn o v D a=>
  have d:QA c {m with now:=m.now+n,TL:=u,QL:=r} ns:=h.ticked (by omega) (zeq v) m.num;have b:kL c (m.now+n) m.L m.Gl:=(j.tick e f hn o v D a).1.ok.seg;exact d.post e f b a
 |taken p slot a B=>exact h.ticked (Int.le_refl _) (fun p a=>⟨p,a,rfl,rfl⟩) _
 |failed t g x q i=>exact h.ticked (Int.le_refl _) (fun p a=>VS i a) m.num
 |rolled t g s si tc rest k TL' q i C a=>
  have d:=h.rolled e f j.ok l i C (xB m.QL t);have b:=(j.ok.rolled q i rfl (xP (xM c m.L s.se s.we k))).1.seg;exact d.post e f b a
 |reclaimed t g s si tc rest TL' q i a=>
  have d:=h.reclaimed e f j.ok i (xB m.QL t);have b:=(j.ok.reclaimed q i rfl).1.seg;exact d.post e f b a
theorem QA.start(c:Cf)(now:Int):QA c ⟨now,[],[],0,[],[]⟩ []:=
 ⟨fun x a=>(by cases a),fun x a=>(by cases a),fun s d=>(by cases d),fun x a=>(by cases a),fun s d=>(by cases d),fun p b=>(by cases b),fun p b=>(by cases b)⟩
theorem zmp(h:s∈zx Gl):(stG Gl L s).st=4:=by
 unfold stG;cases a:zU Gl s with
 |none=>exact absurd h (xO.1 a)
 |some u=>rfl
theorem zfb(h:s∉zx Gl):stG Gl L s=stL L s:=by
 unfold stG;rw[xO.2 h]
end
structure zeg(c:Cf)(m:MS)(r:RM):Prop where
 hc:r.c=c
 now:r.now=m.now
 gone:∀s,jX s r.gone=true↔s∈zx m.Gl
 pub:∀s,jX s r.pub=true↔Pub m.L s\/(0<=s.t/\s∈zx m.Gl)
 inv:QA c m r.nu
section
variable {c:Cf} {ep:Int} {m:MS} {r:RM}
theorem zeg.there(h:zeg c m r)(d:s∈zV r.c r.nu): -1<=s.t/\s.t<c.n/\(s∈zw m.L\/s∈zx m.Gl):=by
 rw[h.hc]at d;obtain⟨a,b,x,f,e⟩:=kD.1 d;refine⟨a,b,?_⟩;have:=h.inv.keys x f s.t a b;rwa[<-e]at this
theorem zeg.seg(h:zeg c m r)(a: -1<=s.t/\s.t<c.n)(b:s∈zw m.L):s∈zV r.c r.nu:=by
 rw[h.hc,kD];obtain⟨x,d,e⟩:=h.inv.has s b;exact⟨a.1,a.2,x,d,e.symm⟩
theorem zeg.wt(h:zeg c m r)(b:MOk c ep m)(l:s∈zV r.c r.nu)(j:0<=s.t):Wt m.L s↔(jX s r.pub=false/\jX s r.gone=false):=by
 obtain⟨p,q,k⟩:=h.there l;constructor
 ·intro d;obtain⟨f,n⟩:=JE b.seg.nl d;have a:s∉zx m.Gl:=by
   obtain⟨v,hv,-⟩:=d;exact b.seg.disj _ hv
  refine⟨?_,?_⟩
  ·rw[Bool.eq_false_iff,ne_eq,h.pub];rintro(⟨v,hv,e⟩|⟨-,e⟩)
   ·obtain⟨u,o,i⟩:=d;have:=jY b.seg.nl o hv;rw[this]at i;omega
   ·exact a e
  ·rw[Bool.eq_false_iff,ne_eq,h.gone];exact a
 ·rintro⟨g,a⟩;rw[Bool.eq_false_iff,ne_eq,h.pub]at g;rw[Bool.eq_false_iff,ne_eq,h.gone]at a;have f:=k.resolve_right a;have hv:=xl f;rcases b.seg.tier _ hv j with e|e
  ·exact⟨_,hv,e⟩
  ·exact absurd (.inl ⟨_,hv,e⟩) g
end
section
variable {c:Cf} {ep:Int} {m:MS} {r:RM}
theorem zam{x:Sg}(o:0<=x.t)(p:x.t<c.n):onB c x s=true↔x∈kP c s:=by
 obtain⟨k,d⟩:∃k:Nat,x.t=k:=⟨x.t.toNat,by omega⟩;have g:k<c.n:=by omega
 have j:c.wh x.t=c.W k:=by rw[d,jO]
 unfold onB kP VL;rw[List.map_map,List.mem_map];constructor
 ·intro h;split at h
  ·cases h
  ·rename_i hno;simp only[not_or,ne_eq,Classical.not_not]at hno;obtain⟨-,b,a⟩:=hno;have e:s.we*c.wh s.t/c.wh x.t=x.we:=(by simpa using h);refine⟨k,List.mem_filter.2 ⟨by simpa using g,?_⟩,?_⟩
   ·rw[d,Int.toNat_natCast]at b;simpa using b
   ·obtain⟨t,se,we⟩:=x;simp only at d a e j ⊢;show(⟨(k:Int),s.se,s.we*c.wh s.t/c.W k⟩:Sg)=⟨t,se,we⟩;rw[<-j,e,d,a]
 ·rintro⟨i,l,rfl⟩;obtain⟨m,f⟩:=List.mem_filter.1 l;have b:c.F i=s.t:=by simpa using f
  simp only[Function.comp]at*;rw[if_neg]
  ·rw[jO];simp
  ·rintro(h|h|h)
   ·omega
   ·exact h (by rw[Int.toNat_natCast];exact b)
   ·exact h rfl
theorem Qc(g:c.ok){k:Sg}(a:inR c k):Yd c L k=true↔∀x∈kP c k,(stL L x).st≠2:=by
 unfold Yd;constructor
 ·intro h x l b;obtain⟨y,d,rfl⟩:=List.mem_map.1 ((Zt g a x).2 l);have i:((jx c k).filter (fun x=>(stL L x.1).st==2)).length=0:=by
   have:(((jx c k).filter (fun x=>(stL L x.1).st==2)).length:Int)=0:=(by simpa using h);omega
  have f:y∈(jx c k).filter (fun x=>(stL L x.1).st==2):=List.mem_filter.2 ⟨d,by simpa using b⟩;rw[List.length_eq_zero_iff.1 i]at f;cases f
 ·intro h;have j:((jx c k).filter (fun y=>(stL L y.1).st==2))=[]:=by
   rw[List.filter_eq_nil_iff];intro y d e;exact h y.1 ((Zt g a y.1).1 (List.mem_map.2 ⟨y,d,rfl⟩)) (by simpa using e)
  rw[j];rfl
end
section
variable {c:Cf} {ep:Int} {m:MS} {r:RM}
theorem zaK{x:Sg}(h:(stL L x).st=2):x∈zw L:=by
 apply Classical.byContradiction;intro hn;have:stL L x=⟨0,qL⟩:=by unfold stL;rw[yT.2 hn];rfl
 rw[this]at h;simp at h
theorem zpo{x:Sg}(h:x∈kP c s):0<=x.t/\x.t<c.n:=by
 unfold kP VL at h;rw[List.map_map]at h;obtain⟨j,a,rfl⟩:=List.mem_map.1 h;have:=(List.mem_filter.1 a).1;simp at this;show 0<=(j:Int)/\(j:Int)<c.n;omega
theorem zgI(C:c.ok)(g:MOk c ep m)(h:zeg c m r)(D:s∈zV r.c r.nu):yt r s (zV r.c r.nu)=true↔s∈zw m.L/\ja c m.L m.now s=true:=by
 obtain⟨G,H,B⟩:=h.there D;unfold yt yj ja;rw[h.hc,h.now]at*;simp only[Bool.and_eq_true,Bool.not_eq_true',decide_eq_false_iff_not,Bool.and_eq_false_iff,List.all_eq_true,beq_eq_false_iff_ne,decide_eq_true_eq,Bool.not_eq_false',ne_eq];have d:s∈zw m.L->((∀x∈zV c r.nu,QD r s x=false)↔Yd c m.L s=true):=fun f=>by
  have w:=g.seg.inr _ (xl f);rw[Qc C w];constructor
  ·intro u x n a;have b:=zpo n;have o:x∈zV c r.nu:=(by have:=h.seg ⟨by omega,b.2⟩ (zaK a);rwa[h.hc]at this);have F:Wt m.L x:=⟨_,xl (zaK a),a⟩;have k:=(h.wt g (by rw[h.hc];exact o) b.1).1 F;have:=u x o;unfold QD at this;rw[h.hc,(zam b.1 b.2).2 n,k.1,k.2]at this;cases this
  ·intro u x n;cases i:QD r s x with
   |false=>rfl
   |true=>
    unfold QD at i;simp only[Bool.and_eq_true,Bool.not_eq_true']at i;obtain⟨⟨j,z⟩,q⟩:=i;rw[h.hc]at j;obtain⟨I,t2,-⟩:=h.there (s:=x) (by rw[h.hc];exact n);have l:0<=x.t:=by
     apply Classical.byContradiction;intro hn;rw[on_1 (by omega)]at j;cases j
    obtain⟨-,a⟩:=JE g.seg.nl ((h.wt g (by rw[h.hc];exact n) l).2 ⟨z,q⟩);exact absurd a (u x ((zam l t2).1 j))
 constructor
 ·rintro⟨⟨⟨a1,a2⟩,a3⟩,a4⟩;have p:s∉zx m.Gl:=fun e=>by rw[(h.gone s).2 e]at a1;cases a1
  have f:=B.resolve_right p;refine⟨f,⟨fun a=>?_,?_⟩,(d f).1 a4⟩
  ·have hv:=xl f;rcases a2 with a2|a2
   ·have:=(g.seg.raw _ hv (by show s.t= -1;omega)).1;simp only at this;omega
   ·rcases(h.pub s).1 a2 with⟨v,y,e⟩|⟨-,e⟩
    ·have:=jY g.seg.nl hv y;rw[<-this]at e;omega
    ·exact p e
  ·unfold Cf.end at a3;omega
 ·rintro⟨f,⟨j,z⟩,q⟩;have hv:=xl f;have p:s∉zx m.Gl:=g.seg.disj _ hv;refine⟨⟨⟨?_,?_⟩,?_⟩,(d f).2 q⟩
  ·rw[Bool.eq_false_iff,ne_eq,h.gone];exact p
  ·by_cases A:0<=s.t
   ·refine .inr ((h.pub s).2 (.inl ⟨_,hv,?_⟩));exact(g.seg.tier _ hv A).resolve_left j
   ·exact .inl A
  ·unfold Cf.end;omega
end
section
variable {c:Cf} {ep:Int} {m:MS} {r:RM}
theorem zna(b:MOk c ep m)(d:s∈zw m.L)(f:(stL m.L s).st=2):0<=s.t/\s.t<c.n:=by
 have hv:=xl d;have a:=b.seg.inr _ hv;refine⟨?_,a.2.2.1⟩;by_cases e:s.t= -1
 ·have:=(b.seg.raw _ hv e).1;simp only at this;omega
 ·have:=a.2.1;simp only at this;omega
theorem zgG(f:MOk c ep m)(h:zeg c m r)(C:∀x,x∈zx Bs↔∃k,k∈zw m.L/\(stL m.L k).st=2/\x∈kP c k)(o:s∈zV r.c r.nu):yb r s (zV r.c r.nu)=true↔s∈zw m.L/\jd c Bs m.L m.now s=true:=by
 obtain⟨M,B,N⟩:=h.there o;have F:=o;unfold yb vs jd;rw[h.hc,h.now]at*;simp only[Bool.and_eq_true,Bool.not_eq_true',decide_eq_false_iff_not,List.all_eq_true,beq_eq_false_iff_ne,beq_iff_eq,decide_eq_true_eq,ne_eq,Option.isNone_iff_eq_none];constructor
 ·rintro⟨⟨⟨⟨a1,a2⟩,a3⟩,a4⟩,a5⟩;have A:0<=s.t:=by omega
  obtain⟨n,d⟩:=JE f.seg.nl ((h.wt f (by rw[h.hc];exact o) A).2 ⟨a2,a3⟩);refine⟨n,⟨?_,d⟩,by unfold Cf.end at a4;omega⟩;rw[xO,C];rintro⟨k,i,l,D⟩;have j:=zna f i l;have a:k∈zV c r.nu:=by have:=h.seg ⟨by omega,j.2⟩ i;rwa[h.hc]at this
  have b:=(h.wt f (by rw[h.hc];exact a) j.1).1 ⟨_,xl i,l⟩;have:=a5 k a;unfold YC at this;rw[h.hc,(zam A B).2 D,b.1,decide_eq_true j.1]at this;cases this
 ·rintro⟨n,⟨v,w⟩,I⟩;have d:=zna f n w;have b:=(h.wt f (by rw[h.hc];exact o) d.1).1 ⟨_,xl n,w⟩;refine⟨⟨⟨⟨by omega,b.1⟩,b.2⟩,by unfold Cf.end;omega⟩,fun x G=>?_⟩;cases g:YC r s x with
  |false=>rfl
  |true=>
   unfold YC at g;simp only[Bool.and_eq_true,Bool.not_eq_true',decide_eq_true_eq]at g;obtain⟨⟨y,z⟩,p⟩:=g;rw[h.hc]at y;have q:jX x r.gone=false:=by
    rw[Bool.eq_false_iff,ne_eq,h.gone];intro e;rw[(h.pub x).2 (.inr ⟨z,e⟩)]at p;cases p
   obtain⟨H,u⟩:=JE f.seg.nl ((h.wt f (by rw[h.hc];exact G) z).2 ⟨p,q⟩);rw[xO,C]at v;exact absurd ⟨x,H,u,(zam d.1 B).1 y⟩ v
end
section
variable {c:Cf} {ep:Int} {m:MS} {r:RM} {ns:List Nm}
theorem zez(m:c.ok)(o:c.fits){k:Sg}(q:0<=x.tm)(e:zT c k.t x=k)(f:s∈kP c k):∃j:Nat,j<c.n/\s.t=j/\c.F j=k.t/\zT c j x=s:=by
 unfold kP VL at f;rw[List.map_map]at f;obtain⟨j,p,rfl⟩:=List.mem_map.1 f;obtain⟨b,d⟩:=List.mem_filter.1 p;have a:j<c.n:=by simpa using b
 have h:c.F j=k.t:=by simpa using d
 refine⟨j,a,rfl,h,?_⟩;have g:=zmZ m o q a;rw[h]at g;have i:x.se=k.se:=congrArg Sg.se e;have l:x.tm/c.wh k.t=k.we:=congrArg Sg.we e;show(⟨(j:Int),x.se,x.tm/c.wh j⟩:Sg)=⟨(j:Int),k.se,k.we*c.wh k.t/c.W j⟩;rw[<-l,g,i,jO]
theorem zlM(u:c.ok)(v:c.fits)(y:MOk c ep m)(d:QA c m ns)(r:∀x,x∈zx Bs↔∃k,k∈zw m.L/\(stL m.L k).st=2/\x∈kP c k){p:Jk×Tsk}(n:p∈m.TL)(o:p.2.rl=true):jd c Bs m.L m.now p.2.s=true:=by
 have l:=y.tg p n;have h:=l.roll o;have a:=l.clo;unfold jd;have g:zU Bs p.2.s=K:=by
  rw[xO,r];rintro⟨k,i,f,w⟩;obtain⟨x,q,e⟩:=d.has k i;obtain⟨j,z,b,t,es⟩:=zez u v (d.tm x q).1 e w;refine(d.tg p n).roll o j b x q (by rw[b];exact es) ?_;rw[t,e];exact⟨_,xl i,f⟩
 rw[g,h];unfold Cf.clo at a;simpa using a
theorem zlL(k:c.ok)(t:c.fits)(l:MOk c ep m)(b:QA c m ns){p:Jk×Tsk}(n:p∈m.TL)(o:p.2.rl=false):ja c m.L m.now p.2.s=true:=by
 have g:=l.tg p n;have i:=g.recl o;obtain⟨h,f⟩:=(b.tg p n).recl o;obtain⟨x,q,e⟩:=b.has p.2.s g.mem;have d:=l.seg.inr _ (xl g.mem);unfold ja;have u:Yd c m.L p.2.s=true:=(Qc k d).2 (fun y z a=>by
  obtain⟨j,v,w,r,es⟩:=zez k t (b.tm x q).1 e z;refine f x q e j v r ?_;rw[es];exact⟨_,xl (zaK a),a⟩)
 rw[u];simp only[Bool.and_true,Bool.and_eq_true,Bool.not_eq_true',beq_eq_false_iff_ne,ne_eq,decide_eq_true_eq];exact⟨i,h⟩
end
theorem ZV{r:RM}(w:c.ok)(z:c.fits)(g:MOk c ep m)(h:zeg c m r)(N:xI m.TL m.QL r.tg)(l:qN c m TL'):xI TL' m.QL r.settled.tg:=by
 obtain⟨Bs,I,C,j⟩:=l.get g.nt;have f:∀(k:Jk) (x:Tsk),zU m.TL k=J x->k=x.key/\x.s∈zw m.L/\(x.rl=true->jd c Bs m.L m.now x.s=true)/\(x.rl=false->ja c m.L m.now x.s=true):=fun k x d=>by
  have l:=zP d;exact⟨(g.tg _ l).key,(g.tg _ l).mem,fun e=>zlM w z g h.inv I l e,fun e=>zlL w z g h.inv l e⟩
 have i:∀k,k∈zx TL'↔∃x,zU TL' k=J x:=fun k=>by
  constructor
  ·intro A;obtain⟨p,D,rfl⟩:=List.mem_map.1 A;exact⟨p.2,xF C D⟩
  ·rintro⟨x,d⟩;exact List.mem_map.2 ⟨_,zP d,rfl⟩
 refine zdL w z g N h.now l (fun kind s B t=>?_) (fun k A=>?_)
 ·rw[i];rcases B with rfl|rfl
  ·have e:kS r 1 s (zV r.c r.nu)=yb r s (zV r.c r.nu):=(by unfold kS;rw[if_pos rfl]);rw[e,zgG g h I t];constructor
   ·rintro⟨a,b⟩;cases d:zU m.TL ⟨1,s⟩with
    |some x=>exact⟨x,(j _ _).2 (.inl d)⟩
    |none=>exact⟨_,(j _ _).2 (.inr ⟨d,s,a,.inl ⟨b,rfl,rfl⟩⟩)⟩
   ·rintro⟨x,d⟩;rcases(j _ _).1 d with d|⟨-,M,a,⟨b,e,-⟩|⟨b,e,-⟩⟩
    ·obtain⟨n,u,G,-⟩:=f _ _ d;unfold Tsk.key Tsk.kd at n;injection n with v H;rw[H];refine⟨u,G ?_⟩;cases F:x.rl with
     |true=>rfl
     |false=>rw[F]at v;simp at v
    ·injection e with y o;rw[o];exact⟨a,b⟩
    ·injection e with y o;omega
  ·have e:kS r 2 s (zV r.c r.nu)=yt r s (zV r.c r.nu):=(by unfold kS;rw[if_neg (by decide)]);rw[e,zgI w g h t];constructor
   ·rintro⟨a,b⟩;cases d:zU m.TL ⟨2,s⟩with
    |some x=>exact⟨x,(j _ _).2 (.inl d)⟩
    |none=>exact⟨_,(j _ _).2 (.inr ⟨d,s,a,.inr ⟨b,rfl,rfl⟩⟩)⟩
   ·rintro⟨x,d⟩;rcases(j _ _).1 d with d|⟨-,M,a,⟨b,e,-⟩|⟨b,e,-⟩⟩
    ·obtain⟨n,u,-,G⟩:=f _ _ d;unfold Tsk.key Tsk.kd at n;injection n with v H;rw[H];refine⟨u,G ?_⟩;cases F:x.rl with
     |false=>rfl
     |true=>rw[F]at v;simp at v
    ·injection e with y o;omega
    ·injection e with y o;rw[o];exact⟨a,b⟩
 ·obtain⟨x,d⟩:=(i k).1 A;have t:k.s∈zw m.L:=by
   rcases(j _ _).1 d with d|⟨-,M,a,⟨b,e,-⟩|⟨b,e,-⟩⟩
   ·obtain⟨n,u,-⟩:=f _ _ d;rw[n];exact u
   ·rw[e];exact a
   ·rw[e];exact a
  have q:=g.seg.inr _ (xl t);exact h.seg ⟨q.2.1,q.2.2.1⟩ t
theorem zfw(c:Cf)(s:Sg)(nu:List Nm)(g:∀x∈nu,x.ok)(p:nu.length<=1000000000):IsC (fun x=>zT c s.t x=s) nu (xy c s nu):=by
 have h:∀k,k<=nu.length->IsC (fun x=>zT c s.t x=s) (nu.take k) (xy c s (nu.take k)):=by
  intro k;induction k with
  |zero=>intro _;simp only[List.take_zero];exact IsC.zero (fun x f=>by cases f)
  |succ k d=>
   intro n;have a:k<nu.length:=n;have d:=d (Nat.le_of_lt a);have e:nu[k]?=J nu[k]:=List.getElem?_eq_getElem a;rw[K7 c s nu k _ e,List.take_succ_eq_append_getElem a];unfold qW;by_cases b:zT c s.t nu[k]=s
   ·rw[if_pos b];have j:=d.add (x:=nu[k]) b;have m:=kM (c:=c) (s:=s) (nu:=nu.take k) (fun x f=>g x (List.mem_of_mem_take f));have i:znh (xy c s (nu.take k)) nu[k].val=Zn (xy c s (nu.take k)) nu[k].val:=by
     unfold znh Zn;have l:=g _ (List.getElem_mem a);unfold Nm.ok at l;have o:(nu.take k).length<=1000000000:=(by rw[List.length_take];omega);rw[show wrap64 ((xy c s (nu.take k)).sum+nu[k].val)=(xy c s (nu.take k)).sum+nu[k].val by unfold wrap64;omega]
    rw[<-i];exact j
   ·rw[if_neg b];exact d.skip b
 have:=h nu.length (Nat.le_refl _);simpa using this
theorem YJ{P Q R:Nm->Prop}[DecidablePred P][DecidablePred Q][DecidablePred R]:∀{ns:List Nm},(∀x∈ns,P x->Q x\/R x)->yR P ns<=yR Q ns+yR R ns
 |[],_=>by simp[yR]
 |x::ns,h=>by
  have c:=YJ (ns:=ns) (fun y b=>h y (by simp[b]));have a:=h x (by simp);simp only[yR];by_cases p:P x
  ·rcases a p with q|q
   ·rw[if_pos p,if_pos q];split<;>omega
   ·rw[if_pos p,if_pos q];split<;>omega
  ·rw[if_neg p];repeat' split;all_goals omega
theorem zel{P:Nm->Prop}[DecidablePred P]:∀{ns:List Nm},(∀x∈ns,P x)->yR P ns=ns.length
 |[],_=>rfl
 |x::ns,h=>by
  have b:=zel (P:=P) (ns:=ns) (fun y a=>h y (by simp[a]));simp only[yR,List.length_cons];rw[if_pos (h x (by simp)),b];omega
theorem zic{ns:List Nm}(h:∀T:Nat,yR (fun x=>x.tm=(T:Int)) ns<=400)(a:∀x∈ns,0<=x.tm):∀N:Nat,yR (fun x=>x.tm<(N:Int)) ns<=400*N
 |0=>by
  rw[qS.2 (fun x c e=>by have:=a x c;omega)];omega
 |N+1=>by
  have g:=zic h a N;have d:=h N;have f:yR (fun x=>x.tm<((N+1:Nat):Int)) ns<=yR (fun x=>x.tm<(N:Int)) ns+yR (fun x=>x.tm=(N:Int)) ns:=YJ (fun x _ e=>by
   by_cases b:x.tm=(N:Int)
   ·exact .inr b
   ·left;omega)
  omega
theorem zeV(m:c.ok){l:List Sg}(hn:l.Nodup)(h:∀k∈l,inR c k/\zci k):l.length<=2000020:=by
 have j:=Qk (l.map zos) (List.range 2000020) ?_ ?_
 ·simpa using j
 ·rw[List.nodup_iff_pairwise_ne,List.pairwise_map];refine(List.nodup_iff_pairwise_ne.1 hn).imp_of_mem ?_;intro a b f g d e;exact d (zeX (h a f).1 (h a f).2 (h b g).1 (h b g).2 e)
 ·intro x n;obtain⟨s,i,rfl⟩:=List.mem_map.1 n;exact List.mem_range.2 (zjS m (h s i).1 (h s i).2)
structure ql(c:Cf)(ep:Int)(m:MS)(r:RM):Prop where
 ok:c.ok
 fits:c.fits
 sok:SOk c ep m r.nu.length
 tie:zeg c m r
 tsk:xI m.TL m.QL r.tg
 slot:∀q∈m.QL,0<=q.2.slot
 picks:r.picks=m.num
 epo:r.epoch=ep
 ghas:∀s∈zx m.Gl,∃x∈r.nu,zT c s.t x=s
 ng:r.gone.Nodup
 np:r.pub.Nodup
 full:∀T:Nat,yR (fun x=>x.tm=(T:Int)) r.nu<=400
 comp:XP c m
section
variable {c:Cf} {ep:Int} {m:MS} {r:RM}
theorem ql.nu(h:ql c ep m r):∀x∈r.nu,x.ok:=fun x a=>by
 have b:=h.tie.inv.tm x a;have d:=h.sok.ok.now;unfold Nm.ok;omega
theorem ql.len(h:ql c ep m r):r.nu.length<=100000000:=by
 have b:=zic h.full (fun x a=>(h.nu x a).2.2.1) 100001;rw[zel (fun x a=>by have d:=h.nu x a;unfold Nm.ok at d;omega)]at b;omega
theorem ql.glen(h:ql c ep m r):r.gone.length<=2000020:=zeV h.ok h.ng (fun s b=>by
 have a:=(h.tie.gone s).1 (vQ b);exact h.sok.gin s a)
theorem ql.plen(h:ql c ep m r):r.pub.length<=2000020:=zeV h.ok h.np (fun s b=>by
 rcases(h.tie.pub s).1 (vQ b)with⟨v,hv,-⟩|⟨-,a⟩
 ·exact⟨h.sok.ok.seg.inr _ hv,h.sok.lin _ (Zw hv)⟩
 ·exact h.sok.gin s a)
theorem xI.len(h:xI TL QL l):l.length=TL.length:=by
 obtain⟨ts,a,-,rfl⟩:=h;rw[List.length_map,a.length_eq,List.length_map]
theorem ql.klen(h:ql c ep m r):r.tg.length<=800:=by rw[h.tsk.len];exact h.sok.ok.t800 h.ok
theorem ql.hokr(h:ql c ep m r):r.c.ok:=by rw[h.tie.hc];exact h.ok
theorem ql.time(h:ql c ep m r):0<=r.now/\r.now<=100000:=by rw[h.tie.now];exact h.sok.ok.now
theorem ql.task(h:ql c ep m r):∀x∈r.tg,(0<=x.tc/\x.tc<=1000000000)/\(x.kind=1\/x.kind=2)/\zjT r.c x.s/\0<=x.si/\x.si<=r.now:=fun x e=>by
 obtain⟨p,d,rfl⟩:=(h.tsk.mem x).1 e;have a:=h.sok.ok.tg p d;have f:=h.sok.ok.now;have b:=h.sok.ok.mem_inR a.mem;have g:=a.tc;refine⟨by show 0<=p.2.tc/\p.2.tc<=1000000000;omega,?_,?_,a.si.1,by rw[h.tie.now];exact a.si.2⟩
 ·show p.2.kd=1\/p.2.kd=2;unfold Tsk.kd;split
  ·exact .inl rfl
  ·exact .inr rfl
 ·rw[h.tie.hc];exact b.2
theorem ql.inGl(h:ql c ep m r):s∈r.gone↔s∈zx m.Gl:=by
 have:=h.tie.gone s;unfold jX at this;simpa using this
theorem ql.inPub(h:ql c ep m r):s∈r.pub↔Pub m.L s\/(0<=s.t/\s∈zx m.Gl):=by
 have:=h.tie.pub s;unfold jX at this;simpa using this
theorem ql.segs(h:ql c ep m r)(s:Sg):s∈zV r.c r.nu↔s∈zw m.L\/s∈zx m.Gl:=by
 constructor
 ·intro b;exact(h.tie.there b).2.2
 ·rintro(b|b)
  ·have a:=h.sok.ok.mem_inR b;exact h.tie.seg ⟨a.2.1,a.2.2.1⟩ b
  ·have a:=(h.sok.gin s b).1;obtain⟨x,d,e⟩:=h.ghas s b;rw[h.tie.hc,kD];exact⟨a.2.1,a.2.2.1,x,d,e.symm⟩
theorem ql.perm(h:ql c ep m r):(zV r.c r.nu).Perm (zw m.L++zx m.Gl):=by
 refine(List.perm_ext_iff_of_nodup (Ym _ _) ?_).2 (fun s=>by rw[h.segs,List.mem_append]);rw[List.nodup_append];refine⟨h.sok.ok.seg.nl,h.sok.ok.seg.ng,fun a d b f e=>?_⟩;subst e;exact h.sok.ok.seg.disj _ (xl d) f
theorem ql.sum(h:ql c ep m r)(f:Sg->Int)(g:SV->Int)(e:Int)(d:∀p∈m.L,f p.1=g p.2)(i:∀s∈zx m.Gl,f s=e):qr ((zV r.c r.nu).map f)=qr (m.L.map (fun p=>g p.2))+e*m.Gl.length:=by
 rw[Vk (h.perm.map f),List.map_append,Vj];congr 1
 ·unfold zw;rw[List.map_map];exact congrArg qr (List.map_congr_left (fun p j=>d p j))
 ·have:∀l:List Sg,(∀s∈l,f s=e)->qr (l.map f)=e*l.length:=by
   intro l;induction l with
   |nil=>intro _;simp[qr]
   |cons a l n=>
    intro b;rw[List.map_cons,qr,n (fun s k=>b s (by simp[k])),b a (by simp),List.length_cons]
    push_cast;rw[Int.mul_add];omega
  rw[this _ i];unfold zx;rw[List.length_map]
theorem ql.raw(h:ql c ep m r)(e:p∈m.L)(a:p.2.st≠2):xy r.c p.1 r.nu=p.2.cl:=by
 have b:=zfw r.c p.1 r.nu h.nu (by have:=h.len;omega);have d:=h.tie.inv.cell p e a;rw[h.tie.hc]at b ⊢;exact b.one d
theorem ql.used(h:ql c ep m r):r.used=xh m.L:=by
 unfold RM.used vX;rw[Jz (ZG r.c r.nu r.gone),h.sum _ kg 0 (fun p a=>?_) (fun s i=>?_)]
 ·unfold xh;omega
 ·have d:¬p.1∈r.gone:=fun e=>h.sok.ok.seg.disj p a (h.inGl.1 e);unfold ZG kg;rw[if_neg d];by_cases f:p.1.t= -1
  ·have g:=(h.sok.ok.seg.raw p a f).1;rw[if_pos f,if_pos g,h.raw a (by omega)]
  ·have b:=h.sok.ok.seg.inr p a;have g:=h.sok.ok.seg.tier p a (by have:=b.2.1;omega);rw[if_neg f,if_neg (by omega)]
 ·unfold ZG;rw[if_pos (h.inGl.2 i)]
theorem ql.ubound(h:ql c ep m r):0<=xh m.L/\xh m.L<=400:=h.sok.ok.seg.u0 h.ok
theorem ql.tight(h:ql c ep m r):r.tight=ka (xh m.L) c.qu:=by
 unfold RM.tight ka;rw[h.used,h.tie.hc]
theorem zmX(r:RM):∀(l:List Sg) (a:Sc),l.foldl (vV r) a=⟨a.held+qr (l.map (fun s=>if s∈r.gone then 0 else if s.t= -1 then 1 else 0)),a.wait+qr (l.map (fun s=>if s∈r.gone then 0 else if s.t= -1 then 0 else if s∈r.pub then 0 else 1)),a.pub+qr (l.map (fun s=>if s∈r.gone then 0 else if s.t= -1 then 0 else if s∈r.pub then 1 else 0)),a.gone+qr (l.map (fun s=>if s∈r.gone then 1 else 0))⟩
 |[],a=>by simp[qr]
 |s::l,a=>by
  rw[List.foldl_cons,zmX r l];simp only[List.map_cons,qr];unfold vV;by_cases b:s∈r.gone
  ·simp only[if_pos b];congr 1<;>omega
  ·by_cases c:s.t= -1
   ·simp only[if_neg b,if_pos c];congr 1<;>omega
   ·by_cases d:s∈r.pub
    ·simp only[if_neg b,if_neg c,if_pos d];congr 1<;>omega
    ·simp only[if_neg b,if_neg c,if_neg d];congr 1<;>omega
theorem ql.stats(h:ql c ep m r):zeU r (zV r.c r.nu)=⟨xW m.L 1,xW m.L 2,xW m.L 3,m.Gl.length⟩/\r.used=xh m.L/\r.tightI=kc (ka (xh m.L) c.qu):=by
 have j:∀p∈m.L,¬p.1∈r.gone:=fun p d e=>h.sok.ok.seg.disj p d (h.inGl.1 e);have f:∀p∈m.L,p.1∈r.pub↔p.2.st=3:=fun p d=>by
  rw[h.inPub];constructor
  ·rintro(⟨v,hv,e⟩|⟨-,e⟩)
   ·rw[jY h.sok.ok.seg.nl d hv];exact e
   ·exact absurd e (h.sok.ok.seg.disj p d)
  ·intro e;exact .inl ⟨p.2,d,e⟩
 have i:∀p∈m.L,(p.1.t= -1/\p.2.st=1)\/(¬p.1.t= -1/\(p.2.st=2\/p.2.st=3)):=fun p d=>by
  have n:=h.sok.ok.seg.inr p d;by_cases o:p.1.t= -1
  ·exact .inl ⟨o,(h.sok.ok.seg.raw p d o).1⟩
  ·exact .inr ⟨o,h.sok.ok.seg.tier p d (by have:=n.2.1;omega)⟩
 have u:∀p∈m.L,(fun s:Sg=>if s∈r.gone then(0:Int)else if s.t= -1 then 1 else 0) p.1=Vx 1 p.2:=fun p d=>by
  dsimp only;rw[if_neg (j p d)];unfold Vx;rcases i p d with⟨a,b⟩|⟨a,b⟩
  ·rw[if_pos a,if_pos b]
  ·rw[if_neg a,if_neg (by omega)]
 have w:∀p∈m.L,(fun s:Sg=>if s∈r.gone then(0:Int)else if s.t= -1 then 0 else if s∈r.pub then 0 else 1) p.1=Vx 2 p.2:=fun p d=>by
  dsimp only;rw[if_neg (j p d)];unfold Vx;rcases i p d with⟨a,b⟩|⟨a,b⟩
  ·rw[if_pos a,if_neg (by omega)]
  ·rw[if_neg a];by_cases e:p.2.st=3
   ·rw[if_pos ((f p d).2 e),if_neg (by omega)]
   ·rw[if_neg (fun k=>e ((f p d).1 k)),if_pos (by omega)]
 have x:∀p∈m.L,(fun s:Sg=>if s∈r.gone then(0:Int)else if s.t= -1 then 0 else if s∈r.pub then 1 else 0) p.1=Vx 3 p.2:=fun p d=>by
  dsimp only;rw[if_neg (j p d)];unfold Vx;rcases i p d with⟨a,b⟩|⟨a,b⟩
  ·rw[if_pos a,if_neg (by omega)]
  ·rw[if_neg a];by_cases e:p.2.st=3
   ·rw[if_pos ((f p d).2 e),if_pos e]
   ·rw[if_neg (fun k=>e ((f p d).1 k)),if_neg e]
 have y:∀p∈m.L,(fun s:Sg=>if s∈r.gone then(1:Int)else 0) p.1=(fun _:SV=>(0:Int)) p.2:=fun p d=>by
  dsimp only;rw[if_neg (j p d)]
 refine⟨?_,h.used,?_⟩
 ·unfold zeU;rw[zmX,h.sum _ (Vx 1) 0 u (fun s g=>by rw[if_pos (h.inGl.2 g)]),h.sum _ (Vx 2) 0 w (fun s g=>by rw[if_pos (h.inGl.2 g)]),h.sum _ (Vx 3) 0 x (fun s g=>by rw[if_pos (h.inGl.2 g)]),h.sum _ (fun _=>0) 1 y (fun s g=>by rw[if_pos (h.inGl.2 g)])];have q:qr (m.L.map (fun _=>(0:Int)))=0:=by
   generalize m.L=l;induction l with
   |nil=>rfl
   |cons a l z=>rw[List.map_cons,qr,z];rfl
  rw[q];unfold xW;dsimp only;congr 1<;>omega
 ·unfold RM.tightI kc;rw[h.tight];cases ka (xh m.L) c.qu<;>rfl
theorem ql.query(h:ql c ep m r)(j:¬(t< -1\/r.c.n<=t\/se<0\/4<=se\/we<0\/100000<we)):r.query t se we=kQ c m.now m.Gl m.L t se we:=by
 have g:r.c.end ⟨t,se,we⟩=(we+1)*c.wh t:=by rw[h.tie.hc];rfl
 have o:r.c.la=c.la:=by rw[h.tie.hc]
 by_cases f:r.now-r.c.la<r.c.end ⟨t,se,we⟩
 ·rw[Jp j f];unfold kQ;rw[g,o,h.tie.now]at f;rw[if_pos f];rfl
 ·have p:=f;rw[g,o,h.tie.now]at p;have w:=zbe (c:=r.c) (nu:=r.nu) (s:=⟨t,se,we⟩) (by show-1<=t;omega) (by show t<r.c.n;omega);unfold kQ;rw[if_neg p];by_cases q:(⟨t,se,we⟩:Sg)∈zV r.c r.nu
  ·have d:¬(xy r.c ⟨t,se,we⟩ r.nu).cnt=0:=fun e=>w.1 e q;by_cases k:(⟨t,se,we⟩:Sg)∈zx m.Gl
   ·rw[Jo j f d (h.inGl.2 k)];unfold jq;rw[zmp k];rfl
   ·have y:=((h.segs _).1 q).resolve_right k;have i:¬(⟨t,se,we⟩:Sg)∈r.gone:=fun e=>k (h.inGl.1 e);have a:=xl y;rw[zfb k];have u:(⟨t,se,we⟩:Sg)∈r.pub↔(stL m.L ⟨t,se,we⟩).st=3:=by
     rw[h.inPub];constructor
     ·rintro(⟨v,hv,e⟩|⟨-,e⟩)
      ·rw[jY h.sok.ok.seg.nl a hv];exact e
      ·exact absurd e k
     ·intro e;exact .inl ⟨_,a,e⟩
    by_cases z:t= -1
    ·have b:=(h.sok.ok.seg.raw _ a z).1;dsimp only at b;have l:=h.raw a (by dsimp only;omega);dsimp only at l;rw[zat j f d i (by omega),l];unfold jq;rw[b];rfl
    ·rcases h.sok.ok.seg.tier _ a (by show 0<=t;omega)with b|b
     ·dsimp only at b;rw[Jq j f d i ⟨by omega,fun e=>by have:=u.1 e;omega⟩];unfold jq;rw[b];rfl
     ·dsimp only at b;have l:=h.raw a (by dsimp only;omega);dsimp only at l;rw[zat j f d i (fun e=>e.2 (u.2 b)),l];unfold jq;rw[b];rfl
  ·rw[V7 j f (w.2 q)];have b:(⟨t,se,we⟩:Sg)∉zx m.Gl:=fun e=>q ((h.segs _).2 (.inr e));have x:(⟨t,se,we⟩:Sg)∉zw m.L:=fun e=>q ((h.segs _).2 (.inl e));rw[zfb b];have:stL m.L ⟨t,se,we⟩=⟨0,qL⟩:=(by unfold stL;rw[yT.2 x];rfl);rw[this];rfl
end
def qe(c:Cf)(m:MS)(se tm val:Int):MS×Int:=
 if se<0\/4<=se then(m,2)
 else if tm<0\/m.now<tm then(m,5)
 else if tm<m.now-c.la then(m,3)
 else if c.qu<xh m.L+(1+2*yv c m.L ⟨se,tm,val⟩ c.n)then(m,4)
 else({m with L:=kY c m.L ⟨se,tm,val⟩},0)
theorem VX{now:Int}:∀(a:List Sg) {T:List (Jk×Tsk)},(∀s∈a,(⟨1,s⟩:Jk)∈zx T)->a.foldl (yr now) T=T
 |[],T,_=>rfl
 |y::a,T,h=>by
  have e:yr now T y=T:=by
   unfold yr;cases b:zU T ⟨1,y⟩with
   |some x=>rfl
   |none=>exact absurd (h y (by simp)) (xO.1 b)
  rw[List.foldl_cons,e];exact VX a (fun s c=>h s (by simp[c]))
theorem VW{now:Int}:∀(a:List Sg) {T:List (Jk×Tsk)},(∀s∈a,(⟨2,s⟩:Jk)∈zx T)->a.foldl (yV now) T=T
 |[],T,_=>rfl
 |y::a,T,h=>by
  have e:yV now T y=T:=by
   unfold yV;cases b:zU T ⟨2,y⟩with
   |some x=>rfl
   |none=>exact absurd (h y (by simp)) (xO.1 b)
  rw[List.foldl_cons,e];exact VW a (fun s c=>h s (by simp[c]))
section
variable {c:Cf} {ep:Int} {m:MS} {r:RM}
theorem XP.posted(h:XP c m):qN c m m.TL:=by
 obtain⟨Bs,e,b,d⟩:=h;refine⟨⟨Bs,(zw m.L).filter (fun s=>jd c Bs m.L m.now s),(zw m.L).filter (fun s=>ja c m.L m.now s),e,fun s=>List.mem_filter,fun s=>List.mem_filter,?_⟩⟩;rw[VX _ (fun s a=>b s (List.mem_filter.1 a).1 (List.mem_filter.1 a).2),VW _ (fun s a=>d s (List.mem_filter.1 a).1 (List.mem_filter.1 a).2)]
theorem zbx(l:List Sg):zx (l.map (fun s=>(s,())))=l:=by
 unfold zx;rw[List.map_map];simp[Function.comp_def]
theorem XP.added(l:c.ok)(S:c.fits)(C:MOk c ep m)(q:MOk c ep {m with L:=kY c m.L x})(h:XP c m)(H:m.now-c.la<=x.tm):XP c {m with L:=kY c m.L x}:=by
 obtain⟨Bs,Q,N,O⟩:=h;have T:=l.n1;have r:(zw (kY c m.L x)).Nodup:=q.seg.nl;have f:∀s,s∈zw (kY c m.L x)->c.clo m.now s->s∈zw m.L/\stL (kY c m.L x) s=stL m.L s:=fun s n a=>by
  have z:=xl n;rcases XQ z with e|⟨e,-⟩|⟨j,Z,e,-⟩
  ·exfalso;injection e with A M;refine ZU l (t:= -1) (x:=x) (by omega) (by omega) H ?_;rw[show zT c (-1) x=s from A.symm];exact a
  ·exact⟨Zw e,jY C.seg.nl e (xl (Zw e))⟩
  ·exfalso;injection e with A M;refine ZU l (t:=(j:Int)) (x:=x) (by omega) (by omega) H ?_;rw[<-A];exact a
 have I:∀k,k∈zw m.L->(stL m.L k).st=2->k∈zw (kY c m.L x)/\(stL (kY c m.L x) k).st=2:=fun k g b=>by
  have z:=xl g;have F:k≠xt c x:=fun e=>by
   have:=(C.seg.raw _ z (by rw[e];rfl)).1;dsimp only at this;omega
  have i:=JF (c:=c) (x:=x) z F;have p:=Zw i;refine⟨p,?_⟩;rw[jY r (xl p) i];exact b
 refine⟨((((zw (kY c m.L x)).filter (fun k=>decide ((stL (kY c m.L x) k).st=2))).flatMap (kP c)).map (fun s=>(s,()))),fun y=>?_,fun s n d=>?_,fun s n d=>?_⟩
 ·rw[zbx,List.mem_flatMap];constructor
  ·rintro⟨k,g,v⟩;obtain⟨i,B⟩:=List.mem_filter.1 g;exact⟨k,i,of_decide_eq_true B,v⟩
  ·rintro⟨k,i,B,v⟩;exact⟨k,List.mem_filter.2 ⟨i,decide_eq_true B⟩,v⟩
 ·obtain⟨a,b⟩:=zeS d;obtain⟨g,w⟩:=f s n a;refine N s g ?_;have D:s∉zx Bs:=fun R=>by
   obtain⟨k,U,V,W⟩:=(Q s).1 R;obtain⟨X,Y⟩:=I k U V;unfold jd at d;cases G:zU ((((zw (kY c m.L x)).filter (fun k=>decide ((stL (kY c m.L x) k).st=2))).flatMap (kP c)).map (fun s=>(s,()))) s with
   |some u=>rw[G]at d;simp at d
   |none=>
    refine xO.1 G ?_;rw[zbx];exact List.mem_flatMap.2 ⟨k,List.mem_filter.2 ⟨X,decide_eq_true Y⟩,W⟩
  unfold jd;dsimp only at w b;rw[w]at b;rw[xO.2 D,b];unfold Cf.clo at a;simpa using a
 ·obtain⟨a,b⟩:=zeP l S q.seg n d;obtain⟨g,w⟩:=f s n a;refine O s g ?_;unfold ja at d ⊢;simp only[Bool.and_eq_true]at d ⊢;rw[w]at d;refine⟨d.1,?_⟩;have o:=C.mem_inR g;rw[Qc l o];have P:=(Qc l o).1 d.2;exact fun y v e=>P y v (I y (zaK e) e).2
theorem zem{α:Type}[DecidableEq α](f:Nm->α)(ns:List Nm):∀ks:List α,yR (fun x=>f x∈ks) ns<=qr (ks.map (fun k=>yR (fun x=>f x=k) ns))
 |[]=>by
  rw[qS.2 (fun x _ h=>by cases h)];simp[qr]
 |k::ks=>by
  have a:=zem f ns ks;rw[List.map_cons,qr];refine Int.le_trans (YJ (Q:=fun x=>f x=k) (R:=fun x=>f x∈ks) (fun x _ h=>by simpa using h)) ?_;omega
theorem zff:∀(l:List Int),(∀x∈l,0<=x)->0<=qr l
 |[],_=>by simp[qr]
 |a::l,h=>by
  have c:=h a (by simp);have d:=zff l (fun x b=>h x (by simp[b]));simp only[qr];omega
theorem zlj(d:c.ok)(a:MOk c ep m){ns:List Nm}(l:QA c m ns){T:Int}(y:m.now-c.la<=T):yR (fun x=>x.tm=T) ns<=400:=by
 have q:=d.n1;have o:yR (fun x=>x.tm=T) ns<=yR (fun x=>xt c x∈zw m.L) ns+yR (fun _=>False) ns:=YJ (fun x i e=> .inl (by
  rcases l.keys x i (-1) (by omega) (by omega)with h|h
  ·exact h
  ·exact absurd h (vu d a (x:=x) (by omega) (by omega) (by omega))))
 rw[show yR (fun _=>False) ns=0 from qS.2 (fun _ _ h=>h)]at o;have r:=zem (xt c) ns (zw m.L);have s:qr ((zw m.L).map (fun k=>yR (fun x=>xt c x=k) ns))=QM m.L:=by
  unfold zw QM;rw[List.map_map];refine congrArg qr (List.map_congr_left (fun p b=>?_));dsimp only[Function.comp];unfold kr;by_cases g:p.1.t= -1
  ·have n:=(a.seg.raw p b g).1;rw[if_pos n,(l.cell p b (by omega)).cnt];refine(ZJ (fun x _=>?_)).1;rw[g];exact Iff.rfl
  ·have f:=a.seg.inr p b;have n:=a.seg.tier p b (by have:=f.2.1;omega);rw[if_neg (by omega)];exact qS.2 (fun x _ e=>g (by rw[<-e];rfl))
 have u:=JD m.L a.seg.sts;have v:=a.seg.used;have w:=d.qu;have j:∀k,0<=xW m.L k:=fun k=>by
  unfold xW;refine zff _ (fun x i=>?_);obtain⟨p,-,rfl⟩:=List.mem_map.1 i;unfold Vx;split<;>omega
 have:=j 2;have:=j 3;omega
theorem ql.cost(h:ql c ep m r){x:Nm}(g:m.now-c.la<=x.tm):∀k:Nat,k<=c.n->yJ r (zV r.c r.nu) x k=xh m.L+1+2*yv c m.L x k
 |0,_=>by
  have:=h.used;simp[yJ,yv,this]
 |k+1,j=>by
  have i:=h.cost g k (by omega);have f:zT c (k:Int) x∉zx m.Gl:=vu h.ok h.sok.ok g (by omega) (by omega);have b:=h.tie.hc;by_cases d:zT r.c (k:Int) x∈zV r.c r.nu
  ·have a:zT c (k:Int) x∈zw m.L:=by
    have:=(h.segs _).1 d;rw[b]at this;exact this.resolve_right f
   rw[zda d,i];simp[yv,a]
  ·have a:¬zT c (k:Int) x∈zw m.L:=fun e=>d ((h.segs _).2 (.inl (by rw[b];exact e)));rw[JK d,i];simp only[yv,if_neg a];omega
theorem ql.ingest(h:ql c ep m r)(se tm val:Int)(t: -2147483648<=val/\val<=2147483647):(r.ingest se tm val).2=(qe c m se tm val).2/\ql c ep (qe c m se tm val).1 (r.ingest se tm val).1:=by
 have a:=h.tie.now;have b:=h.tie.hc;by_cases f:se<0\/4<=se
 ·rw[QN f,show qe c m se tm val=(m,2)from by unfold qe;rw[if_pos f]]
  exact⟨rfl,h⟩
 by_cases k:tm<0\/m.now<tm
 ·rw[Xw f (by rw[a];exact k),show qe c m se tm val=(m,5)from by unfold qe;rw[if_neg f,if_pos k]]
  exact⟨rfl,h⟩
 by_cases o:tm<m.now-c.la
 ·rw[Kw f (by rw[a];exact k) (by rw[a,b];exact o),show qe c m se tm val=(m,3)from by unfold qe;rw[if_neg f,if_neg k,if_pos o]]
  exact⟨rfl,h⟩
 have w:m.now-c.la<=(⟨se,tm,val⟩:Nm).tm:=by show m.now-c.la<=tm;omega
 have g:=h.cost w c.n (Nat.le_refl _);by_cases B:c.qu<xh m.L+(1+2*yv c m.L ⟨se,tm,val⟩ c.n)
 ·rw[Kv f (by rw[a];exact k) (by rw[a,b];exact o) (by rw[b]at g ⊢;rw[g];omega),show qe c m se tm val=(m,4)from by unfold qe;rw[if_neg f,if_neg k,if_neg o,if_pos B]]
  exact⟨rfl,h⟩
 rw[zbt f (by rw[a];exact k) (by rw[a,b];exact o) (by rw[b]at g ⊢;rw[g];omega),show qe c m se tm val=({m with L:=kY c m.L ⟨se,tm,val⟩},0)from by unfold qe;rw[if_neg f,if_neg k,if_neg o,if_neg B]]
 have A:VJ c ep m r.nu {m with L:=kY c m.L ⟨se,tm,val⟩} (r.nu++[⟨se,tm,val⟩]):=.added m r.nu ⟨se,tm,val⟩ ⟨by show 0<=se;omega,by show se<4;omega⟩ ⟨by show 0<=tm;omega,by show tm<=m.now;omega⟩ w t (by omega);have i:=A.ok h.ok h.fits h.sok;have q:=h.tie.inv.act h.ok h.fits h.sok (by have:=h.len;omega) A;have p:=h.comp.added h.ok h.fits h.sok.ok i.ok w;have y:=h.sok.ok.seg;have d:zeg c {m with L:=kY c m.L ⟨se,tm,val⟩} {r with nu:=r.nu++[⟨se,tm,val⟩]}:=by
  refine⟨b,a,h.tie.gone,fun s=>?_,q⟩;rw[h.tie.pub s];refine or_congr ⟨fun⟨v,hv,l⟩=>⟨v,JF hv (fun e=>?_),l⟩,fun⟨v,hv,l⟩=>?_⟩ Iff.rfl
  ·have D:=(y.raw _ hv (by rw[show s=xt c ⟨se,tm,val⟩from e];rfl)).1;dsimp only at D;omega
  ·rcases XQ hv with e|⟨e,-⟩|⟨j,H,e,-⟩
   ·injection e with C u;rw[u]at l;simp at l
   ·exact⟨v,e,l⟩
   ·injection e with C u;rw[u]at l;simp at l
 have z:=ZV h.ok h.fits i.ok d h.tsk p.posted;refine⟨rfl,⟨h.ok,h.fits,i,⟨d.hc,d.now,d.gone,d.pub,d.inv⟩,z,h.slot,h.picks,h.epo,fun s F=>?_,h.ng,h.np,fun T=>?_,p⟩⟩
 ·obtain⟨x,G,e⟩:=h.ghas s F;exact⟨x,List.mem_append_left _ G,e⟩
 ·show yR (fun x=>x.tm=(T:Int)) (r.nu++[⟨se,tm,val⟩])<=400;by_cases e:tm=(T:Int)
  ·exact zlj h.ok i.ok q (by show m.now-c.la<=_;omega)
  ·rw[(Q5 _ _).1,if_neg e];have:=h.full T;omega
end
structure ExpF(n:Int)(TL:List (Jk×Tsk))(QL:List (Tok×Lse))(T1:List (Jk×Tsk))(Q1:List (Tok×Lse))(D:List Jk):Prop where
 tl:T1=TL.map (fun p=>if p.1∈D then(p.1,p.2.failed n)else p)
 sub:∀q∈Q1,q∈QL
 out:∀q∈QL,q∈Q1\/(q.2.job∈D/\q.2.til<=n)
 inn:∀q∈Q1,q.2.job∉D
 has:∀k∈D,∃q∈QL,q.2.job=k
 nq:(zx Q1).Nodup
 jobs:(Q1.map (fun q=>q.2.job)).Nodup
theorem zbh(nt:(zx TL).Nodup)(nq:(zx QL).Nodup)(jobs:(QL.map (fun q=>q.2.job)).Nodup)(h:zcC n TL QL T1 Q1):∃D,ExpF n TL QL T1 Q1 D:=by
 induction h with
 |nil=>exact⟨[],by simp,fun q h=>h,fun q h=> .inl h,fun q _=>by simp,fun k l=>(by cases l),nq,jobs⟩
 | @step T1 Q1 t g x _ y o C F=>
  obtain⟨D,i1,i2,i3,i4,i5,z,A⟩:=F;have c:=zP y;have d:g.job∉D:=i4 _ c;have v:zU T1 g.job=J x:=C;have f:=zP v;have w:(g.job,x)∈TL:=by
   rw[i1]at f;obtain⟨p,s,e⟩:=List.mem_map.1 f;by_cases a:p.1∈D
   ·rw[if_pos a]at e;injection e with B G;exact absurd (B▸a) d
   ·rw[if_neg a]at e;rw[<-e];exact s
  refine⟨g.job::D,?_,fun q i=>i2 q (xg.1 i).1,fun q i=>?_,fun q i=>?_,fun k l=>?_,qI z,ZM A _⟩
  ·show qM T1 g.job (x.failed n)=_;unfold qM;rw[if_pos (show g.job∈zx T1 from List.mem_map.2 ⟨_,f,rfl⟩),i1,List.map_map];refine List.map_congr_left (fun p s=>?_);dsimp only[Function.comp];by_cases a:p.1∈D
   ·have r:¬p.1=g.job:=fun e=>d (e▸a);simp[a,r]
   ·by_cases e:p.1=g.job
    ·have b:zU TL p.1=J p.2:=xF nt s;have m:zU TL g.job=J x:=xF nt w;rw[e,m]at b;injection b with b;have u:p=(g.job,x):=Prod.ext e b.symm;subst u;simp[d]
    ·simp[a,e]
  ·rcases i3 q i with b|⟨b,m⟩
   ·by_cases e:q.1=t
    ·have j:zU Q1 q.1=J q.2:=xF z b;rw[e,y]at j;injection j with j;exact .inr ⟨by rw[<-j];simp,by rw[<-j];exact o⟩
    ·exact .inl (xg.2 ⟨b,e⟩)
   ·exact .inr ⟨List.mem_cons_of_mem _ b,m⟩
  ·intro a;rcases List.mem_cons.1 a with e|a
   ·exact Zv A c i e
   ·exact i4 q (xg.1 i).1 a
  ·rcases List.mem_cons.1 l with rfl|l
   ·exact⟨_,i2 _ c,rfl⟩
   ·exact i5 k l
theorem xI.expired{D:List Jk}(F:∀p∈TL,p.1=p.2.key)(j:∀q∈QL,0<=q.2.slot)(h:xI TL QL l)(f:ExpF n TL QL T1 Q1 D)(H:∀p∈Q1,n<p.2.til):xI T1 Q1 (l.map (zcE n)):=by
 obtain⟨ts,u,I,rfl⟩:=h;refine⟨ts.map (fun z=>if z.key∈D then z.failed n else z),?_,?_,?_⟩
 ·have e:T1.map (·.2)=(TL.map (·.2)).map (fun z=>if z.key∈D then z.failed n else z):=by
   rw[f.tl,List.map_map,List.map_map];refine List.map_congr_left (fun p G=>?_);dsimp only[Function.comp];rw[<-F p G];split<;>rfl
  rw[e];exact u.map _
 ·rw[List.pairwise_map];refine I.imp (fun{a b} h=>?_);have A:∀z:Tsk,(if z.key∈D then z.failed n else z).kd=z.kd/\(if z.key∈D then z.failed n else z).s=z.s:=fun z=>by split<;>exact⟨rfl,rfl⟩
  have x:=A a;have y:=A b;rw[qR]at h ⊢;rw[x.1,x.2,y.1,y.2];exact h
 ·rw[List.map_map,List.map_map];refine List.map_congr_left (fun z M=>?_);dsimp only[Function.comp];rcases ZL QL z with⟨q,m,g,e⟩|⟨hn,e⟩
  ·rcases f.out q m with d|⟨d,v⟩
   ·have c:z.key∉D:=g▸f.inn q d;rw[if_neg c];have k:jG Q1 z=(q.1,q.2.slot,q.2.til):=Qe f.jobs d g;have B:ko QL z=ko Q1 z:=jM (e.trans k.symm);rw[B];unfold zcE;rw[if_neg];rintro⟨-,C⟩;have w:(ko Q1 z).till=q.2.til:=(by show(jG Q1 z).2.2=_;rw[k]);have:=H q d;omega
   ·have c:z.key∈D:=g▸d;rw[if_pos c];have t:jG Q1 (z.failed n)=(⟨0,0⟩,-1,0):=Zu (fun o i r=>f.inn o i (by rw[show o.2.job=z.key from r];exact c));unfold zcE;rw[if_pos]
    ·unfold Tk.fail ko;rw[t];rfl
    ·have w:(ko QL z).till=q.2.til:=(by show(jG QL z).2.2=_;rw[e]);have L:(ko QL z).slot=q.2.slot:=(by show(jG QL z).2.1=_;rw[e]);have:=j q m;omega
  ·have c:z.key∉D:=fun c=>by
    obtain⟨q,d,v⟩:=f.has _ c;exact hn q d v
   rw[if_neg c];have k:jG Q1 z=(⟨0,0⟩,-1,0):=Zu (fun o i r=>hn o (f.sub o i) r);rw[jM (e.trans k.symm)];unfold zcE;rw[if_neg];rintro⟨C,-⟩;have w:(ko Q1 z).slot= -1:=(by show(jG Q1 z).2.1=_;rw[k]);omega
section
variable {c:Cf} {ep:Int} {m:MS} {r:RM}
theorem ql.tick_bad(h:ql c ep m r)(a:n<1\/1000<n\/100000<m.now+n):r.tickL n=(r,5):=Qv (by rw[h.tie.now];exact a)
theorem ql.tick(h:ql c ep m r)(hn:1<=n/\n<=1000)(e:m.now+n<=100000){b:List (Jk×Tsk)}{a:List (Tok×Lse)}(g:zcC (m.now+n) m.TL m.QL b a)(l:∀p∈a,m.now+n<p.2.til)(f:qN c {m with now:=m.now+n,TL:=b,QL:=a} TL'):(r.tickL n).2=0/\ql c ep {m with now:=m.now+n,TL:=TL',QL:=a} (r.tickL n).1:=by
 have v:r.tickL n=({r with now:=r.now+n,tg:=r.tg.map (zcE (r.now+n))}.settled,0):=zfj (by rw[h.tie.now];omega);rw[v];refine⟨rfl,?_⟩;have k:=h.sok.ok.exps (n':=m.now+n) ⟨by omega,e⟩ g l;obtain⟨D,t⟩:=zbh h.sok.ok.nt h.sok.ok.nq h.sok.ok.jobs g;have i:QA c {m with now:=m.now+n,TL:=b,QL:=a} r.nu:=h.tie.inv.ticked (by omega) (zeq g) m.num;have d:zeg c {m with now:=m.now+n,TL:=b,QL:=a} {r with now:=r.now+n,tg:=r.tg.map (zcE (r.now+n))}:=⟨h.tie.hc,by show r.now+n=m.now+n;rw[h.tie.now],h.tie.gone,h.tie.pub,i⟩;have j:xI b a (r.tg.map (zcE (r.now+n))):=by
  rw[h.tie.now];exact h.tsk.expired (fun p f=>(h.sok.ok.tg p f).key) h.slot t l
 have s:=ZV h.ok h.fits k d j f;have u:VJ c ep m r.nu {m with now:=m.now+n,TL:=TL',QL:=a} r.nu:=.ticked m r.nu n b TL' a hn.1 e g l f;refine⟨h.ok,h.fits,u.ok h.ok h.fits h.sok,⟨d.hc,d.now,d.gone,d.pub,h.tie.inv.act h.ok h.fits h.sok (by have:=h.len;omega) u⟩,s,fun q o=>h.slot q (t.sub q o),h.picks,h.epo,h.ghas,h.ng,h.np,h.full,XP.of f⟩
end
section
variable {c:Cf} {ep:Int} {m:MS} {r:RM}
theorem XP.more(h:XP c m){d:List (Jk×Tsk)}{Q':List (Tok×Lse)}{n':Int}(e:∀k,k∈zx m.TL->k∈zx d):XP c {m with num:=n',TL:=d,QL:=Q'}:=by
 obtain⟨Bs,i,f,g⟩:=h;exact⟨Bs,i,fun s b a=>e _ (f s b a),fun s b a=>e _ (g s b a)⟩
theorem ql.pick_slot(h:ql c ep m r)(a:slot<0\/c.s<=slot):r.pick slot=(r,zaU,6):=by
 unfold RM.pick;rw[if_pos (by rw[h.tie.hc];exact a)]
theorem ql.pick_busy(h:ql c ep m r)(a:0<=slot/\slot<c.s)(b:m.QL.any (fun p=>p.2.slot==slot)=true):r.pick slot=(r,zaU,6):=by
 unfold RM.pick;rw[if_neg (by rw[h.tie.hc];omega),if_pos (by rw[K6 h.sok.ok h.tsk slot a.1];exact b)]
theorem ql.pick_idle(h:ql c ep m r)(a:0<=slot/\slot<c.s)(b:m.QL.any (fun p=>p.2.slot==slot)=false)(d:∀p∈m.TL,kO m.QL m.now p.2=false):r.pick slot=(r,zaU,7):=by
 unfold RM.pick;rw[if_neg (by rw[h.tie.hc];omega),if_neg (by rw[K6 h.sok.ok h.tsk slot a.1,b];decide),Go.Proofs.YtndhpgciopcncaaGreatDoor.pick_idle h.tsk h.tie.now h.slot d]
theorem Ye{t:Tok}{v:Lse}(a:t∉zx QL)(q:Tok×Lse):q∈qM QL t v↔q=(t,v)\/q∈QL:=by
 unfold qM;rw[if_neg a,List.mem_append,List.mem_singleton];exact or_comm
theorem ql.pick(h:ql c ep m r)(f:0<=slot/\slot<c.s)(x:m.QL.any (fun p=>p.2.slot==slot)=false){p:Jk×Tsk}(o:p∈m.TL)(i:kO m.QL m.now p.2=true)(z:YW c m.now (ka (xh m.L) c.qu) m.QL m.TL p.2):
  (r.pick slot).2.2=0/\(r.pick slot).2.1=⟨p.2.kd,p.2.s,p.2.si,p.2.tc,p.2.rest,ep,m.num+1,slot,m.now+c.le⟩/\ql c ep {m with num:=m.num+1,QL:=qM m.QL ⟨ep,m.num+1⟩ ⟨p.2.kd,p.2.s,slot,m.now+c.le⟩} (r.pick slot).1:=by
 obtain⟨j,y,v⟩:=zjh h.sok.ok h.tie.hc h.tsk h.tie.now h.tight h.slot o i z;have w:r.pick slot=({r with picks:=r.picks+1,tg:=r.tg.modify j (Tk.leased ep (m.num+1) slot (m.now+c.le))},Tk.leased ep (m.num+1) slot (m.now+c.le) (ko m.QL p.2),0):=by
  unfold RM.pick;rw[if_neg (by rw[h.tie.hc];omega),if_neg (by rw[K6 h.sok.ok h.tsk slot f.1,x];decide),y];simp only[v,Option.getD_some,h.picks,h.epo,h.tie.now,h.tie.hc]
 rw[w];obtain⟨A,g⟩:=VY i;have u:VJ c ep m r.nu {m with num:=m.num+1,QL:=qM m.QL ⟨ep,m.num+1⟩ ⟨p.2.kd,p.2.s,slot,m.now+c.le⟩} r.nu:=.taken m r.nu p slot o i;have d:=u.ok h.ok h.fits h.sok;have b:(⟨ep,m.num+1⟩:Tok)∉zx m.QL:=fun l=>by
  obtain⟨q,a,e⟩:=List.mem_map.1 (show(⟨ep,m.num+1⟩:Tok)∈m.QL.map (·.1)from l);have:=(h.sok.ok.leas q a).num.2;rw[e]at this;dsimp only at this;omega
 have n:∀q∈m.QL,q.2.job≠p.2.key:=fun q a e=>by
  unfold vg at g;rw[List.any_eq_false]at g;exact g q a (decide_eq_true (show(⟨q.2.kd,q.2.s⟩:Jk)=p.2.key from e))
 refine⟨rfl,rfl,⟨h.ok,h.fits,d,⟨h.tie.hc,h.tie.now,h.tie.gone,h.tie.pub,h.tie.inv.act h.ok h.fits h.sok (by have:=h.len;omega) u⟩,?_,fun q a=>?_,?_,h.epo,h.ghas,h.ng,h.np,h.full,h.comp.more (fun k l=>l)⟩⟩
 ·exact xI.taken (t:=⟨ep,m.num+1⟩) h.sok.ok h.tsk d.ok.jobs o n (fun q=>Ye b q) v
 ·rcases(Ye b q).1 a with rfl|a
  ·exact f.1
  ·exact h.slot q a
 ·show r.picks+1=m.num+1;rw[h.picks]
theorem ql.fail_no(h:ql c ep m r)(a:zU m.QL ⟨e,n⟩=K):r.fail e n=(r,8):=by
 unfold RM.fail;rw[VT h.sok.ok h.tsk h.slot e n a]
theorem ql.commit_no(h:ql c ep m r)(a:zU m.QL ⟨e,n⟩=K):r.commit e n=(r,8):=by
 unfold RM.commit;rw[VT h.sok.ok h.tsk h.slot e n a]
theorem ql.fail(h:ql c ep m r)(b:zU m.QL ⟨e,n⟩=J g){x:Tsk}(d:zU m.TL g.job=J x):(r.fail e n).2=0/\ql c ep {m with TL:=qM m.TL g.job (x.failed m.now),QL:=xB m.QL ⟨e,n⟩} (r.fail e n).1:=by
 obtain⟨f,i,j⟩:=zhW h.sok.ok h.tsk h.tie.now h.slot e n b d;refine⟨f,?_⟩;have a:VJ c ep m r.nu {m with TL:=qM m.TL g.job (x.failed m.now),QL:=xB m.QL ⟨e,n⟩} r.nu:=.failed m r.nu ⟨e,n⟩ g x b d;rw[i];refine⟨h.ok,h.fits,a.ok h.ok h.fits h.sok,⟨h.tie.hc,h.tie.now,h.tie.gone,h.tie.pub,h.tie.inv.act h.ok h.fits h.sok (by have:=h.len;omega) a⟩,j,fun q o=>h.slot q (xg.1 o).1,h.picks,h.epo,h.ghas,h.ng,h.np,h.full,h.comp.more (fun k l=>xz.2 (.inl l))⟩
end
theorem zew{α β:Type}{f g:β->α->β}:∀(l:List α) (b:β),(∀b a,a∈l->f b a=g b a)->l.foldl f b=l.foldl g b
 |[],b,_=>rfl
 |a::l,b,h=>by
  rw[List.foldl_cons,List.foldl_cons,h b a (by simp)];exact zew l _ (fun b x c=>h b x (by simp[c]))
theorem Za(kind:Int)(s:Sg)(P:Tk->Bool):∀(l:List Tk) (t:Tk),(∀x∈l,P x=false->¬(x.kind=kind/\x.s=s))->(l.filter P).foldl (qE kind s) t=l.foldl (qE kind s) t
 |[],t,_=>rfl
 |x::l,t,h=>by
  have a:=fun t=>Za kind s P l t (fun y c=>h y (by simp[c]));rw[List.filter_cons,List.foldl_cons];cases b:P x with
  |true=>rw[if_pos rfl,List.foldl_cons];exact a _
  |false=>
   rw[if_neg (by decide),a];have e:qE kind s t x=t:=(by unfold qE;rw[if_neg (h x (by simp) b)]);rw[e]
theorem Yo(r:RM)(kd:Int)(s:Sg)(f:kS r kd s (zV r.c r.nu)=false):{r with tg:=r.tg.filter (fun t=>!decide (t.kind=kd/\t.s=s))}.settled.tg=r.settled.tg:=by
 show qt {r with tg:=r.tg.filter (fun t=>!decide (t.kind=kd/\t.s=s))} (zV r.c r.nu) (zV r.c r.nu).length=qt r (zV r.c r.nu) (zV r.c r.nu).length;unfold qt;refine zew _ _ (fun out a k=>?_);have d:∀(kind:Int) (o:List Tk),yX {r with tg:=r.tg.filter (fun t=>!decide (t.kind=kd/\t.s=s))} (zV r.c r.nu) kind o a=yX r (zV r.c r.nu) kind o a:=fun kind o=>by
  unfold yX;have g:kS {r with tg:=r.tg.filter (fun t=>!decide (t.kind=kd/\t.s=s))} kind a (zV r.c r.nu)=kS r kind a (zV r.c r.nu):=rfl;rw[g];by_cases b:kS r kind a (zV r.c r.nu)=true
  ·rw[if_pos b,if_pos b];have h:yc {r with tg:=r.tg.filter (fun t=>!decide (t.kind=kd/\t.s=s))} kind a=yc r kind a:=by
    unfold yc;refine Za kind a _ r.tg _ (fun x l e=>?_);simp only[Bool.not_eq_false',decide_eq_true_eq]at e;rintro⟨i,j⟩;rw[<-i,<-j,e.1,e.2,f]at b;cases b
   rw[h]
  ·rw[if_neg b,if_neg b]
 rw[d,d]
section
variable {c:Cf} {ep:Int} {m:MS} {r:RM}
theorem xI.dropped(i:MOk c ep m)(h:xI m.TL m.QL l){t:Tok}(w:zU m.QL t=J g){x:Tsk}(F:zU m.TL g.job=J x):xI (xB m.TL g.job) (xB m.QL t) (l.filter (fun k=>!decide (k.kind=x.kd/\k.s=x.s))):=by
 obtain⟨ts,v,D,rfl⟩:=h;have f:g.job=x.key:=(i.tg _ (zP F)).key;have A:=zP w;have d:∀z:Tsk,(z.kd=x.kd/\z.s=x.s)↔z.key=x.key:=fun z=>by
  unfold Tsk.key;constructor
  ·rintro⟨a,b⟩;rw[a,b]
  ·intro e;injection e with a b;exact⟨a,b⟩
 refine⟨ts.filter (fun z=>!decide (z.kd=x.kd/\z.s=x.s)),?_,D.filter _,?_⟩
 ·have e:(xB m.TL g.job).map (·.2)=(m.TL.map (·.2)).filter (fun z=>!decide (z.kd=x.kd/\z.s=x.s)):=by
   unfold xB;rw[List.filter_map];refine congrArg (List.map _) (List.filter_congr (fun p C=>?_));have j:=(i.tg p C).key;dsimp only[Function.comp];rw[f];by_cases e:p.1=x.key
   ·have r:p.2.kd=x.kd/\p.2.s=x.s:=(d p.2).2 (by rw[<-j];exact e);simp[e,r]
   ·have r:¬(p.2.kd=x.kd/\p.2.s=x.s):=fun h=>e (by rw[j];exact(d p.2).1 h);simp only[e,r,decide_false,Bool.not_false,ne_eq,not_false_eq_true,decide_true]
  rw[e];exact v.filter _
 ·rw[List.filter_map];have y:((fun k:Tk=>!decide (k.kind=x.kd/\k.s=x.s))∘ko m.QL)=fun z=>!decide (z.kd=x.kd/\z.s=x.s):=rfl;rw[y];refine List.map_congr_left (fun z G=>?_);have u:z.key≠x.key:=fun e=>by
   have:=(List.mem_filter.1 G).2;rw[decide_eq_true ((d z).2 e)]at this;cases this
  refine jM (QO i.jobs (ZM i.jobs t) (fun q B=>?_));rw[xg];constructor
  ·refine fun o=>⟨o,fun e=>u ?_⟩;have n:zU m.QL q.1=J q.2:=xF i.nq o;rw[e,w]at n;injection n with n;rw[<-B,<-n,f]
  ·exact fun o=>o.1
theorem ql.roll(h:ql c ep m r)(x:zU m.QL ⟨e,n⟩=J g)(u:zU m.TL g.job=J ⟨true,s,si,tc,rest⟩)(I:s.t=k)(C:qN c {m with L:=km m.L s ⟨3,xP (xM c m.L s.se s.we k)⟩,Gl:=m.Gl,TL:=xB m.TL g.job,QL:=xB m.QL ⟨e,n⟩} TL'):
  (r.commit e n).2=0/\ql c ep {m with L:=km m.L s ⟨3,xP (xM c m.L s.se s.we k)⟩,Gl:=m.Gl,TL:=TL',QL:=xB m.QL ⟨e,n⟩} (r.commit e n).1:=by
 obtain⟨j,O,P⟩:=QP h.sok.ok h.tsk h.slot e n x u;have Q:r.commit e n=({r with pub:=r.pub++[s]}.settled,0):=by
  unfold RM.commit;rw[O];simp only[P,Option.getD_some];unfold RM.done;rw[if_pos (show(ko m.QL ⟨true,s,si,tc,rest⟩).kind=1 from rfl)];rfl
 rw[Q];refine⟨rfl,?_⟩;have p:=h.sok.ok;have M:=p.tg _ (zP u);have i:s∈zw m.L:=M.mem;have D:(stL m.L s).st=2:=M.roll rfl;have A:=(p.rolled x u rfl (xP (xM c m.L s.se s.we k))).1;have y:=h.tie.inv.rolled h.ok h.fits p (by have:=h.len;omega) u I (xB m.QL ⟨e,n⟩);have o:¬s∈r.pub:=fun S=>by
  rcases h.inPub.1 S with⟨v,hv,d⟩|⟨-,d⟩
  ·rw[jY p.seg.nl (xl i) hv]at D;omega
  ·exact p.seg.disj _ (xl i) d
 have l:∀f,jX f (r.pub++[s])=true↔Pub (km m.L s ⟨3,xP (xM c m.L s.se s.we k)⟩) f\/(0<=f.t/\f∈zx m.Gl):=fun f=>by
  have:jX f (r.pub++[s])=true↔f∈r.pub\/f=s:=by unfold jX;simp
  rw[this,h.inPub];constructor
  ·rintro((⟨v,hv,d⟩|d)|rfl)
   ·by_cases e:f=s
    ·rw[e];exact .inl ⟨_,zar,rfl⟩
    ·exact .inl ⟨v,zas hv e,d⟩
   ·exact .inr d
   ·exact .inl ⟨_,zar,rfl⟩
  ·rintro(⟨v,hv,d⟩|d)
   ·rcases qG hv with e|⟨hv,-⟩
    ·injection e with N T;exact .inr N
    ·exact .inl (.inl ⟨v,hv,d⟩)
   ·exact .inl (.inr d)
 have F:zeg c {m with L:=km m.L s ⟨3,xP (xM c m.L s.se s.we k)⟩,Gl:=m.Gl,TL:=xB m.TL g.job,QL:=xB m.QL ⟨e,n⟩} {r with pub:=r.pub++[s],tg:=r.tg.filter (fun t=>!decide (t.kind=(1:Int)/\t.s=s))}:=⟨h.tie.hc,h.tie.now,h.tie.gone,l,y⟩;have z:xI (xB m.TL g.job) (xB m.QL ⟨e,n⟩) (r.tg.filter (fun t=>!decide (t.kind=(1:Int)/\t.s=s))):=h.tsk.dropped p x u;have w:=ZV h.ok h.fits A F z C;rw[show({r with pub:=r.pub++[s],tg:=r.tg.filter (fun t=>!decide (t.kind=(1:Int)/\t.s=s))}:RM).settled.tg=({r with pub:=r.pub++[s]}:RM).settled.tg from Yo {r with pub:=r.pub++[s]} 1 s (by
  unfold kS;rw[if_pos rfl];unfold yb vs;have:jX s ({r with pub:=r.pub++[s]}:RM).pub=true:=vQ (by simp);rw[this];simp)]at w
 have G:VJ c ep m r.nu {m with L:=km m.L s ⟨3,xP (xM c m.L s.se s.we k)⟩,Gl:=m.Gl,TL:=TL',QL:=xB m.QL ⟨e,n⟩} r.nu:=.rolled m r.nu ⟨e,n⟩ g s si tc rest k TL' x u I C;refine⟨h.ok,h.fits,G.ok h.ok h.fits h.sok,⟨h.tie.hc,h.tie.now,h.tie.gone,l,h.tie.inv.act h.ok h.fits h.sok (by have:=h.len;omega) G⟩,w,fun q R=>h.slot q (xg.1 R).1,h.picks,h.epo,h.ghas,h.ng,?_,h.full,XP.of C⟩;show(r.pub++[s]).Nodup;rw[List.nodup_append];exact⟨h.np,by simp,fun a B b H e=>by simp at H;subst H;subst e;exact o B⟩
theorem ql.reclaim(h:ql c ep m r)(y:zU m.QL ⟨e,n⟩=J g)(u:zU m.TL g.job=J ⟨false,s,si,tc,rest⟩)(H:qN c {m with L:=xB m.L s,Gl:=qM m.Gl s (),TL:=xB m.TL g.job,QL:=xB m.QL ⟨e,n⟩} TL'):
  (r.commit e n).2=0/\ql c ep {m with L:=xB m.L s,Gl:=qM m.Gl s (),TL:=TL',QL:=xB m.QL ⟨e,n⟩} (r.commit e n).1:=by
 obtain⟨j,Q,R⟩:=QP h.sok.ok h.tsk h.slot e n y u;have S:r.commit e n=({r with gone:=r.gone++[s]}.settled,0):=by
  unfold RM.commit;rw[Q];simp only[R,Option.getD_some];unfold RM.done;rw[if_neg (by show¬((2:Int)=1);decide)];rfl
 rw[S];refine⟨rfl,?_⟩;have l:=h.sok.ok;have P:=l.tg _ (zP u);have f:s∈zw m.L:=P.mem;have I:(stL m.L s).st≠2:=P.recl rfl;have F:=(l.reclaimed y u rfl).1;have B:=h.tie.inv.reclaimed h.ok h.fits l u (xB m.QL ⟨e,n⟩);have A:¬s∈r.gone:=fun U=>l.seg.disj _ (xl f) (h.inGl.1 U);have i:∀d,jX d (r.gone++[s])=true↔d∈zx (qM m.Gl s ()):=fun d=>by
  have:jX d (r.gone++[s])=true↔d∈r.gone\/d=s:=by unfold jX;simp
  rw[this,h.inGl,xz]
 have o:∀d,jX d r.pub=true↔Pub (xB m.L s) d\/(0<=d.t/\d∈zx (qM m.Gl s ())):=fun d=>by
  rw[h.tie.pub,xz];constructor
  ·rintro(⟨v,hv,k⟩|⟨k,w⟩)
   ·by_cases e:d=s
    ·refine .inr ⟨?_,.inr e⟩;have C:=l.seg.inr _ hv;by_cases V:d.t= -1
     ·have:=(l.seg.raw _ hv V).1;dsimp only at this;omega
     ·have:=C.2.1;dsimp only at this;omega
    ·exact .inl ⟨v,xg.2 ⟨hv,e⟩,k⟩
   ·exact .inr ⟨k,.inl w⟩
  ·rintro(⟨v,hv,k⟩|⟨k,w|w⟩)
   ·exact .inl ⟨v,(xg.1 hv).1,k⟩
   ·exact .inr ⟨k,w⟩
   ·left;rw[w]at k ⊢;rcases l.seg.tier _ (xl f) k with z|z
    ·exact absurd z I
    ·exact⟨_,xl f,z⟩
 have M:zeg c {m with L:=xB m.L s,Gl:=qM m.Gl s (),TL:=xB m.TL g.job,QL:=xB m.QL ⟨e,n⟩} {r with gone:=r.gone++[s],tg:=r.tg.filter (fun t=>!decide (t.kind=(2:Int)/\t.s=s))}:=⟨h.tie.hc,h.tie.now,i,o,B⟩;have D:xI (xB m.TL g.job) (xB m.QL ⟨e,n⟩) (r.tg.filter (fun t=>!decide (t.kind=(2:Int)/\t.s=s))):=h.tsk.dropped l y u;have x:=ZV h.ok h.fits F M D H;rw[show({r with gone:=r.gone++[s],tg:=r.tg.filter (fun t=>!decide (t.kind=(2:Int)/\t.s=s))}:RM).settled.tg=({r with gone:=r.gone++[s]}:RM).settled.tg from Yo {r with gone:=r.gone++[s]} 2 s (by
  unfold kS;rw[if_neg (by decide)];unfold yt yj;have:jX s ({r with gone:=r.gone++[s]}:RM).gone=true:=vQ (by simp);rw[this];simp)]at x
 have N:VJ c ep m r.nu {m with L:=xB m.L s,Gl:=qM m.Gl s (),TL:=TL',QL:=xB m.QL ⟨e,n⟩} r.nu:=.reclaimed m r.nu ⟨e,n⟩ g s si tc rest TL' y u H;refine⟨h.ok,h.fits,N.ok h.ok h.fits h.sok,⟨h.tie.hc,h.tie.now,i,o,h.tie.inv.act h.ok h.fits h.sok (by have:=h.len;omega) N⟩,x,fun q T=>h.slot q (xg.1 T).1,h.picks,h.epo,fun d p=>?_,?_,h.np,h.full,XP.of H⟩
 ·rcases xz.1 p with p|rfl
  ·exact h.ghas d p
  ·exact h.tie.inv.has _ f
 ·show(r.gone++[s]).Nodup;rw[List.nodup_append];exact⟨h.ng,by simp,fun a G b O e=>by simp at O;subst O;subst e;exact A G⟩
theorem ql.new(a:c.ok)(b:c.fits):ql c ep ⟨0,[],[],0,[],[]⟩ ⟨c,0,[],[],[],[],ep,0⟩:=by
 refine⟨a,b,SOk.new a,⟨rfl,rfl,fun s=>by simp[jX,zx],fun s=>by simp[jX,zx,Pub],QA.start c 0⟩,⟨[],by simp,by simp,rfl⟩,by simp,rfl,rfl,by simp[zx],by simp,by simp,fun T=>by simp[yR],⟨[],fun x=>by simp[zx,zw],by simp[zw],by simp[zw]⟩⟩
end
theorem zkr(h:zF w i c ep m)(y:c.ok)(u:0<=xh m.L/\xh m.L<=1000)(b:m.L.length<=100000)(p:Cf)(r:w.1[po]?=J (zL i.x d p ct mv td eo)):
  Calls prog 76 #[(O po),(O i.x)] w fun e w'=>e=.returned (.bool (decide (eo<ep)))/\w'.1[po]?=J (zL i.x d p ct mv td ep)/\zj (fun k=>k=po) w w':=by
 have o:=ze (Jd h y u b);generalize xh m.L=U9 at*;generalize xW m.L 1=A1 at*;generalize xW m.L 2=A2 at*;generalize xW m.L 3=A3 at*;generalize m.Gl.length=A4 at*;generalize kc (ka U9 c.qu)=T at*;generalize i.x=x at*;have s:=zd r;have v:=ze r;clear h r u b;go_in;go_wp2_with fail;refine o.mono ?_;rintro e w1 ⟨rfl,f⟩;have a:=(f.block po s).trans v;have z:w1.cell? (U po 12)=J (I eo):=by unfold zL at a;rw[xd a];rfl
 have A:∀j,w1.frozen? (U po j)=false:=fun j=>by unfold zL at a;exact zI a j
 have t:=zd a;have n:=ze a;have l:=ze f;clear a f;go_wp2_with fail;go_region
 go_wp2_with fail;go_ret;have q:zj (fun k=>k=po) w w1:=zj.of_below l;have g:(w1.setCell (U po 12) (I ep)).1[po]?=J (zL x d p ct mv td ep):=by
  have:=ud n;unfold zL at this;exact xq (i:=12) this _
 exact⟨rfl,(Below.heap_alloc _ _ _ (zd g)).trans g,((zk q rfl).alloc _).drew⟩
theorem zcu(th:List Tok)(o:Ops)(n: -9223372036854775808<=o.a/\o.a<=9223372036854775807)(s:(⟨o.te,o.tn⟩:Tok).wf)(q:∀t∈th,t.wf)(A:th.length<=1099511627776):
  ∃t:Tok,t.wf/\∀(w:World) (po x d:Nat) (h:Cf) (ct mv td:E) (eo:Int),w.1[po]?=J (zL x d h ct mv td eo)->w.ownsRow 0 49 2 td th.length (th.flatMap zoE)->
   Calls prog 139 #[(O po),.agg (oZz o.kd o)] w (Rz w (.agg #[I t.ep,I t.num])):=by
 by_cases u:o.b=0
 ·by_cases r:th=[]
  ·subst r;refine⟨⟨o.te,o.tn⟩,s,fun w po x d h ct mv td eo l c=>?_⟩;obtain⟨a,cap,rfl⟩:=zq c;exact zhe h l o
  ·have m:0<th.length:=List.length_pos_iff.2 r;obtain⟨i,B,p⟩:=zjg o.a th.length n m;have v:th.length-1-i<th.length:=(by omega);have e:th[th.length-1-i]?=J th[th.length-1-i]:=List.getElem?_eq_getElem v;generalize z:th.length-1-i=j at*;generalize th[j]=t at*;refine⟨t,q t (List.mem_of_getElem? e),fun w po x d h ct mv td eo l c=>?_⟩;obtain⟨g,cap,rfl,-,y⟩:=c.form (by omega);refine zhf h l o u y (i:=i) (j:=j) (by omega) v A p ?_ ?_
   ·rw[c.cellAt (j*2) (by omega)];exact qs (f:=zoE) (k:=2) (fun _=>rfl) th j t 0 e (by omega)
   ·rw[c.cellAt (j*2+1) (by omega)];exact qs (f:=zoE) (k:=2) (fun _=>rfl) th j t 1 e (by omega)
 ·exact⟨⟨o.te,o.tn⟩,s,fun w po x d h ct mv td eo l c=>zkv h l o u⟩
theorem zbL{base:Nat}{e:TypeId}{size:Nat}{v:E}{n:Nat}{xs:List E}(h:w.ownsRow base e size v n xs):∀k,v.ownBlock=J k->base<=k:=fun k a=>by
 rcases h.2 with⟨rfl,_⟩|⟨g,cap,b,rfl,c,_⟩
 ·simp[Value.ownBlock]at a
 ·simp[Value.ownBlock]at a;subst a;exact c
def kG(B:Nat)(X:World)(q:Nat)(m':RM)(tv nv pv gv kv:E)(V:World):Prop:=∃d b a c,zR B V q m' tv d b a c/\(∀k,b.ownBlock=J k->¬a.ownBlock=J k)/\zj (jI q tv nv pv gv kv) X V/\∀k,jI q tv d b a c k->jI q tv nv pv gv kv k\/X.1.size<=k
theorem kG.kept(h:kG B X q m' tv nv pv gv kv V):zj (jI q tv nv pv gv kv) X V:=by
 obtain⟨_,_,_,_,_,_,h,_⟩:=h;exact h
theorem zjy{m:RM}(h:zR B w q m tv nv pv gv kv):∀k,jI q tv nv pv gv kv k->B<=k/\k<w.1.size:=fun k a=>by
 rcases a with rfl|a|a|a|a|a
 ·exact⟨h.base,h.lt⟩
 ·exact⟨zbL h.trow k a,Zz h.trow k a⟩
 ·exact⟨zbL h.nrow k a,Zz h.nrow k a⟩
 ·exact⟨zbL h.prow k a,Zz h.prow k a⟩
 ·exact⟨zbL h.grow k a,Zz h.grow k a⟩
 ·exact⟨zbL h.krow k a,Zz h.krow k a⟩
theorem zav{N:Nat}{Z:World}(v:∀k,jI q tv nv pv gv kv k->B<=k/\k<w.1.size)(c:B_ w X)(y:X.1.size=w.1.size+N)(u:kG B X q m' tv nv pv gv kv V){g:Nat}(a:zj (fun k=>k=g) V Z)(s:w.1.size<=g:=by omega)(t:g<X.1.size:=by omega):kG B w q m' tv nv pv gv kv Z:=by
 obtain⟨l,m,b,j,o,p,r,n⟩:=u;refine⟨l,m,b,j,o.kept a (fun k d e=>?_),p,((zj.of_below (f:=jI q tv nv pv gv kv) c).trans r (fun _ _ h=>h)).trans a (fun i x e=>?_),fun k d=>?_⟩
 ·rcases n k d with h|h
  ·have:=(v k h).2;omega
  ·omega
 ·omega
 ·rcases n k d with h|h
  ·exact .inl h
  ·exact .inr (by omega)
def zfO(F:Nat×Nat×Nat×Nat)(x:Nat)(o:Ops)(te tn kd:Int)(fc:Nat)(av:Array E):Prop:=kd=2/\fc=F.1/\av=#[(O x),I o.a,I o.b,i_ o.v]\/kd=3/\fc=F.2.1/\av=#[(O x),I o.a]\/kd=7/\fc=F.2.2.1/\av=#[(O x),.agg #[I te,I tn]]\/kd=8/\fc=F.2.2.2/\av=#[(O x),.agg #[I te,I tn]]
theorem zkW(c':Cf)(Z:w.1[po]?=J (zL i.x d c' ct mv td eo))(a2:¬xm w i po)(h:FLt w i)(o:Ops)(te tn:Int)(C:Int->MS->Prop)(N:zfO (27,26,20,21) i.x o te tn kd fc av)(D:∀X,B_ w X->Calls prog fc av X fun e V=>∃(l:Int) (m':MS),e=.returned (I l)/\zF V i c ep m'/\Kx i X V/\C l m'):
  Calls prog 140 #[(O po),.agg (oZz kd o),.agg #[I te,I tn]] w fun e w'=>∃(l:Int) (m':MS),e=.returned (.tuple #[.agg #[I 0,I 0,I 0,I 0,I 0,I 0,I 0,I 0,I 0,I 0,I 0],I l])/\zF w' i c ep m'/\Kx i w w'/\C l m':=by
 obtain⟨y0,y1,y2,f,yz⟩:=K5 w (.cells (oZz kd o) 82) (.cells #[I te,I tn] 49) Zj;have Q:=fun(V:World) (hb:B_ w V)=>ze (D V hb);have p:=ze h;have a1:=zd Z;have HP:=ze Z;clear Z D;unfold zfO at N;rcases N with⟨rfl,rfl,rfl⟩|⟨rfl,rfl,rfl⟩|⟨rfl,rfl,rfl⟩|⟨rfl,rfl,rfl⟩;all_goals
  dsimp only at Q
  go_in
  go_wp2_with fail
  generalize(((w.alloc _).alloc _).alloc _)=X at*
  have S:=Q X f
  have T:=Q X.drew f.drew
  clear Q
  have t:=(f.block po a1).trans HP
  have z0:X.cell? (U po 0)=J (O i.x):=by unfold zL at t;rw[xd t];rfl
  obtain⟨-,-,u,y,-,z,-⟩:=zc y0
  obtain⟨A,B,-⟩:=zc y1
  have a0:po<X.1.size:=by omega
  have j:w.1.size<X.1.size:=by omega
  have m:w.1.size+1<X.1.size:=by omega
  have s:¬xm w i w.1.size:=fun e=>by have:=h.foot _ e;omega
  have P:¬xm w i (w.1.size+1):=fun e=>by have:=h.foot _ e;omega
  have Y:¬xm w i (w.1.size+2):=fun e=>by have:=h.foot _ e;omega
  have W:w.1.size+2<X.1.size:=by omega
  have Y2:=ze y2
  have n:=ze f
  have YZ:=ze yz
  clear y0 y1 y2 f yz t h
  go_region_held3 (fun w'=>w'.cell? (U po 0)=J (O i.x)/\w'.cell? (U w.1.size 2)=J (I o.a)/\w'.cell? (U w.1.size 3)=J (I o.b)/\w'.cell? (U w.1.size 5)=J (i_ o.v)/\w'.cell? (U (w.1.size+1) 0)=J (I te)/\w'.cell? (U (w.1.size+1) 1)=J (I tn)) (go_keep) (first
   |((first|go_at_call 27|go_at_call 26|go_at_call 20|go_at_call 21);(first|refine T.mono ?_|refine S.mono ?_);rintro e V ⟨l,m',rfl,hm,M,ha⟩;have r:Kx i X V:=zdm M;have k:zj (xm w i) X V:=p.kept n r;have F:=ze r;clear M r;have R:=ze ha;have G:=ze hm;have v0:=(zD (i:=0) k a2 a0).trans z0;have a5:=(zD (i:=2) k s j).trans u;have a6:=(zD (i:=3) k s j).trans y;have a7:=(zD (i:=5) k s j).trans z;have a8:=(zD (i:=0) k P m).trans A;have a9:=(zD (i:=1) k P m).trans B;have q:=ze ((k.block (w.1.size+2) W Y).trans Y2);have a3:=ze k;clear hm k ha))
  have jf:=fun i=>zI q i
  obtain⟨j0,j1,j2,j3,j4,j5,j6,j7,j8,j9,a4⟩:=z11 q
  go_wp2_with(go_at_call 135;refine(zaj _ _).mono ?_;rintro e V1 ⟨rfl,L⟩;rw[L];clear L)
  have hf:=XG q (I 0) (I 0) (I 0) (I 0) (I 0) (I 0) (I 0) (I 0) (I 0) (I 0) (I 0)
  have H:=jk (w:=V) (g:=w.1.size+2) (I 0) (I 0) (I 0) (I 0) (I 0) (I 0) (I 0) (I 0) (I 0) (I 0) (I 0)
  refine bodyPost_ret (v:=.tuple #[.agg #[I 0,I 0,I 0,I 0,I 0,I 0,I 0,I 0,I 0,I 0,I 0],I l]) (zn results140 _ _ (w.1.size+2) _ _ _ _ _ rfl rfl hf underlying51 rfl (by kernel_rfl)) rfl ?_
  exact⟨l,m',rfl,(p.close n G F H (by omega) (by have:=ud YZ;omega)).1,(p.close n G F H (by omega) (by have:=ud YZ;omega)).2,R⟩
theorem zmL{m:RM}(h:zR B w q m tv nv pv gv kv)(o:Ops)(te tn:Int){jb:Tk}{n:Int}{p:E}(j:kd=6/\fc=213/\av=#[(O q),I o.a]/\p=.tuple #[tkA jb,I n]\/jb=zaU/\p=I n/\zfO (211,212,214,215) q o te tn kd fc av)(d:∀X,B_ w X->Calls prog fc av X fun e V=>e=.returned p/\kG B X q m' tv nv pv gv kv V):
  Calls prog 142 #[(O q),.agg (oZz kd o),.agg #[I te,I tn]] w fun e w'=>e=.returned (.tuple #[tkA jb,I n])/\kG B w q m' tv nv pv gv kv w':=by
 obtain⟨C,D,u,c,v⟩:=K5 w (.cells (oZz kd o) 82) (.cells #[I te,I tn] 49) Zj;have s:=ze (d _ c);have f:=ze (zjy h);have z:=h.lt;clear h d;unfold zfO at j;rcases j with⟨rfl,rfl,rfl,rfl⟩|⟨rfl,rfl,⟨rfl,rfl,rfl⟩|⟨rfl,rfl,rfl⟩|⟨rfl,rfl,rfl⟩|⟨rfl,rfl,rfl⟩⟩;all_goals
  try dsimp only at s
  go_in
  have x:=ze u
  have k:=ze c
  have t:=ze v
  clear C D u c v
  go_wp2_with fail
  generalize(((w.alloc _).alloc _).alloc _)=X at*
  refine s.mono ?_
  rintro e V ⟨rfl,r⟩
  have y:w.1.size+2<X.1.size:=by rw[ud t];omega
  have g:=r.kept.heap x (fun e=>by have:=(ud f _ e).2;omega)
  have b:=ze g
  have l:=ze r
  clear r g
  obtain⟨F,G,H,L,M,N,P,Q,R,S,A⟩:=z11 b
  have jf:=fun i=>zI b i
  have T:=zd b
  go_wp2_with fail
  refine bodyPost_ret (zn results142 _ _ (w.1.size+2) _ _ _ _ _ rfl rfl (XG b _ _ _ _ _ _ _ _ _ _ _) underlying51 rfl (by kernel_rfl)) rfl ?_
  exact⟨rfl,zav f k t l (jk _ _ _ _ _ _ _ _ _ _ _)⟩
