import Derived.Test.YtpbimdkclnekeaaGreatVSml0
open Go.Value renaming int → I
open Go.IntKind renaming i64 → J
open Nat renaming le_refl → K
open Option renaming some → O
open Nat renaming lt_of_lt_of_le → E
open Go.RowKit.Below renaming refl → U
open Go.IntKind (i32)
set_option linter.unusedVariables false
set_option maxRecDepth 20000
set_option maxHeartbeats 8000000
open Go.Proofs.Tryz
namespace Go.Proofs.YtpbimdkclnekeaaGreat
open Go.ChangeMaps (setBlock)
open Go.RowKit Go.Maps Go.Shelf
section
variable {c:Cf} {ep:Int} {m:MS} {ns:List Nm}
theorem Vy{L:LV}{s:Sg}{v:SV}:(s,v)∈yi L s v:=by
 unfold yi
 by_cases h:s∈zx L
 ·rw[if_pos h]
  obtain⟨p,a,e⟩:=List.mem_map.1 (show s∈L.map (·.1)from h)
  exact List.mem_map.2 ⟨p,a,by rw[if_pos e]⟩
 ·rw[if_neg h];simp
theorem Vz{L:LV}{s:Sg}{v:SV}{p:Sg×SV}(b:p∈L)(a:p.1≠s):p∈yi L s v:=by
 unfold yi
 by_cases h:s∈zx L
 ·rw[if_pos h]
  exact List.mem_map.2 ⟨p,b,by rw[if_neg a]⟩
 ·rw[if_neg h];simp[b]
theorem ZO{L:LV}{x:Nm}{p:Sg×SV}(a:p∈kJ c L x):p=(xq c x,⟨1,qD x.val ((kV L (xq c x)).map (·.cl))⟩)\/(p∈L/\p.1≠xq c x)\/∃j:Nat,j<c.n/\p=(zI c (j:Int) x,⟨2,qP⟩)/\zI c (j:Int) x∉zx L:=by
 rcases jB x c.n _ a with a|⟨j,b,e,hn⟩
 ·rcases qm a with a|a
  ·exact .inl a
  ·exact .inr (.inl a)
 ·exact .inr (.inr ⟨j,b,e,fun d=>hn (xV.2 (.inl d))⟩)
theorem KT{L:LV}{x:Nm}{p:Sg×SV}(b:p∈L)(a:p.1≠xq c x):p∈kJ c L x:=vJ x c.n _ (Vz b a)
theorem zen{L:LV}{x:Nm}{s:Sg}(h:s∈zx L):s∈zx (kJ c L x):=by
 have a:s∈zx (xS c L x):=by unfold xS;exact xV.2 (.inl h)
 obtain⟨p,b,e⟩:=List.mem_map.1 (show s∈(xS c L x).map (·.1)from a)
 subst e
 exact jq (vJ x c.n _ b)
theorem ziT{L:LV}{x:Nm}{y:Sg}(h:Wt (kJ c L x) y):Wt L y\/∃j:Nat,j<c.n/\y=zI c (j:Int) x/\y∉zx L:=by
 obtain⟨v,hv,d⟩:=h
 rcases ZO hv with e|⟨hv,_⟩|⟨j,f,e,hn⟩
 ·injection e with a b;subst b;simp at d
 ·exact .inl ⟨v,hv,d⟩
 ·injection e with a b;exact .inr ⟨j,f,a,by rw[a];exact hn⟩
theorem zaS{L:LV}{x:Nm}(f:yZ c m.now m.L m.Gl)(j:c.ok)(hv: -2147483648<=x.val/\x.val<=2147483647){P:Nm->Prop}[DecidablePred P](g:P x)
  (h:∀o,kV m.L (xq c x)=O o->IsC P ns o.cl) (i:kV m.L (xq c x)=none->∀y∈ns,¬P y):IsC P (ns++[x]) (qD x.val ((kV m.L (xq c x)).map (·.cl))):=by
 cases b:kV m.L (xq c x)with
 |none=>
  have:=(IsC.zero (i b)).add g
  have e:ziU qP x.val=qD x.val none:=by
   simp only[ziU,qP,qD,Int.zero_add,true_or,if_true]
   rw[show wrap64 x.val=x.val by unfold wrap64;omega]
  rw[e]at this
  exact this
 |some o=>
  obtain⟨a,k,l,n,p⟩:=MOk.rawAt f j b
  have:=(h o b).add g
  have e:ziU o.cl x.val=qD x.val (O o.cl):=by
   have d:¬o.cl.cnt=0:=by omega
   simp only[ziU,qD,d,false_or]
   rw[show wrap64 (o.cl.sum+x.val)=x.val+o.cl.sum by unfold wrap64;omega,Int.add_comm o.cl.cnt]
   congr 1
   ·by_cases a:o.cl.mn<x.val
    ·rw[if_pos a,if_neg (by omega)]
    ·rw[if_neg a];split<;>omega
   ·by_cases a:x.val<o.cl.mx
    ·rw[if_pos a,if_neg (by omega)]
    ·rw[if_neg a];split<;>omega
  rw[e]at this
  exact this
theorem ZN.added(C:c.ok)(Z:c.fits)(q:MOk c ep m)(h:ZN c m ns){x:Nm}(hs:0<=x.se/\x.se<4)(hx:0<=x.tm/\x.tm<=m.now)(T:m.now-c.la<=x.tm)(hv: -2147483648<=x.val/\x.val<=2147483647):
  ZN c {m with L:=kJ c m.L x} (ns++[x]):=by
 have f:∀{y:Nm},y∈ns++[x]->y∈ns\/y=x:=fun a=>by
  rcases List.mem_append.1 a with a|a
  ·exact .inl a
  ·exact .inr (List.mem_singleton.1 a)
 have z:∀t:Int,-1<=t->t<c.n->zI c t x∉zv m.Gl:=fun t r w=>kD C q T r w
 have a0:=C.n1
 have F:∀y,Pub m.L y->Pub (kJ c m.L x) y:=fun y ⟨v,G,M⟩=>⟨v,KT G (fun e=>by
  have h4:=(q.seg.raw _ G (by rw[show y=xq c x from e];rfl)).1
  simp only at h4;omega),M⟩
 --no waiting segment of an elder number is new
 have H:∀y∈ns,∀t:Int,-1<=t->t<c.n->Wt (kJ c m.L x) (zI c t y)->Wt m.L (zI c t y):=fun y a t r w B=>by
  rcases ziT B with B|⟨j,hj,e,hn⟩
  ·exact B
  ·exfalso
   rcases h.keys y a t r w with d|d
   ·exact hn d
   ·rw[e]at d;exact z j (by omega) (by omega) d
 have i:∀s:Sg,s∈zx m.L->c.clo m.now s->zI c s.t x≠s:=fun s d R e=>by
  have b:=q.seg.inr _ (zY d)
  exact Z7 C b.2.1 b.2.2.1 T (by rw[e];exact R)
 refine⟨fun y a=>?_,fun y a t r w=>?_,fun s W=>?_,fun y a k d hg=>?_,h.over,fun p g A=>?_,fun p g=>?_⟩
 ·rcases f a with a|rfl
  ·exact h.tm y a
  ·exact⟨hx.1,hx.2,hs.1,hs.2,hv⟩
 ·rcases f a with a|rfl
  ·exact(h.keys y a t r w).imp zen id
  ·left
   by_cases X:t= -1
   ·subst X
    have r:xq c y∈zx (xS c m.L y):=by unfold xS;exact xV.2 (.inr rfl)
    obtain⟨p,g,e⟩:=List.mem_map.1 (show xq c y∈(xS c m.L y).map (·.1)from r)
    show xq c y∈_
    rw[<-e]
    exact jq (vJ y c.n _ g)
   ·have:=ZP (c:=c) y c.n (xS c m.L y) t.toNat (by omega)
    rw[show((t.toNat:Nat):Int)=t by omega]at this
    exact this
 ·obtain⟨p,g,rfl⟩:=List.mem_map.1 (show s∈(kJ c m.L x).map (·.1)from W)
  rcases ZO g with rfl|⟨g,_⟩|⟨j,hj,rfl,_⟩
  ·exact⟨x,by simp,rfl⟩
  ·obtain⟨y,a,e⟩:=h.has _ (jq g)
   exact⟨y,by simp[a],e⟩
  ·exact⟨x,by simp,rfl⟩
 ·have N:=Z.down k d
  rcases f a with a|rfl
  ·exact(h.gone y a k d hg).imp id (F _)
  ·exact absurd hg (z _ N.1 (by omega))
 ·rcases ZO g with rfl|⟨g,V⟩|⟨j,hj,rfl,_⟩
  ·refine zaS (L:=m.L) q.seg C hv rfl (fun o u=>?_) (fun u y a e=>?_)
   ·have D:=jU u
    have r:=(q.seg.raw _ D rfl).1
    exact h.cell _ D (by simp only at r ⊢;omega)
   ·have Y:zI c (-1) y=xq c x:=e
    rcases h.keys y a (-1) (by omega) (by omega)with d|d
    ·exact yC.1 u (Y▸d)
    ·exact z (-1) (by omega) (by omega) (show xq c x∈_ from Y▸d)
  ·refine(h.cell p g A).skip (fun e=>?_)
   have b:=q.seg.inr p g
   by_cases X:p.1.t= -1
   ·exact V (by rw[<-e,X];rfl)
   ·rcases q.seg.tier p g (by have:=b.2.1;omega)with w|M
    ·exact A w
    ·exact JC C q T b.2.1 b.2.2.1 ⟨p.2,by rw[e];exact g,M⟩
  ·exact absurd rfl A
 ·have u:=q.tg p g
  have b:=q.seg.inr _ (zY u.mem)
  have Q:=h.tg p g
  refine⟨fun e k d y a l B=>?_,fun e=>⟨(Q.recl e).1,fun y a l k d N B=>?_⟩⟩
  ·have S:k<c.n:=by have:=b.2.2.1;simp only at this;omega
   have P:=Z.down k S
   rcases f a with a|rfl
   ·exact Q.roll e k d y a l (H y a _ P.1 (by omega) B)
   ·exact i _ u.mem u.clo l
  ·rcases f a with a|rfl
   ·exact(Q.recl e).2 y a l k d N (H y a _ (by omega) (by omega) B)
   ·exact i _ u.mem u.clo l
theorem zkk{q y v:Int}(e:1<=q):y/q=v↔v*q<=y/\y<v*q+q:=by
 constructor
 ·intro h
  subst h
  have a:=Int.emod_add_mul_ediv y q
  have b:=Int.emod_nonneg y (show q≠0 by omega)
  have c:=Int.emod_lt_of_pos y (show 0<q by omega)
  rw[Int.mul_comm]at a
  omega
 ·rintro⟨a,b⟩
  have c:v<=y/q:=(Int.le_ediv_iff_mul_le (by omega)).2 a
  have d:y/q<v+1:=(Int.ediv_lt_iff_lt_mul (by omega)).2 (by rw[Int.add_mul,Int.one_mul];exact b)
  omega
theorem ZN.rolled(hc:c.ok)(hf:c.fits)(S:MOk c ep m)(h:ZN c m ns)(M:(ns.length:Int)<9223372036854775808){j:Jk}{s:Sg}{si tc rest:Int}{k:Nat}(hx:zV m.TL j=O ⟨true,s,si,tc,rest⟩)(H:s.t=k)(Q1:List (Tok×Lse)):
  ZN c {m with L:=yi m.L s ⟨3,xQ (qk c m.L s.se s.we k)⟩,TL:=xt m.TL j,QL:=Q1} ns:=by
 have ho:=S.tg _ (zK hx)
 have hR:=(h.tg _ (zK hx)).roll rfl
 have g:s∈zx m.L:=ho.mem
 have V:=S.seg.inr _ (zY g)
 have Z:(stL m.L s).st=2:=ho.roll rfl
 have A:k<c.n:=by have:=V.2.2.1;simp only at this;omega
 have hF:=hf.down k A
 have a2:=(hc.wh hF.1 (show c.F k<c.n by omega)).1
 obtain⟨q,Y,hq⟩:=hf.quot k A
 have B:xW c k=q:=by
  unfold xW
  rw[vV,hq,Int.mul_ediv_cancel_left _ (by omega)]
 have o:∀x∈ns,(x.se=s.se/\s.we*q<=x.tm/c.wh (c.F k)/\x.tm/c.wh (c.F k)<s.we*q+q)↔zI c s.t x=s:=fun x b=>by
  have h0:=(h.tm x b).1
  rw[<-zkk Y,Int.ediv_ediv_of_nonneg (by omega),<-hq,H]
  obtain⟨st,ss,sw⟩:=s
  simp only at H ⊢
  unfold zI
  rw[vV]
  subst H
  simp only[Sg.mk.injEq,true_and]
 have l:¬Pub m.L s:=fun⟨v,hv,h3⟩=>by rw[vE S.seg.nl (zY g) hv]at Z;omega
 have u:IsC (fun x=>zI c s.t x=s) ns (xQ (qk c m.L s.se s.we k)):=by
  unfold qk
  rw[B]
  have r:((q.toNat:Nat):Int)=q:=by omega
  have:=(zab (L:=m.L) (wd:=c.wh (c.F k)) (f:=c.F k) (se:=s.se) (a:=s.we*q) M q.toNat (fun i hi=>?_)).1
  ·rw[r]at this
   exact this.congr o
  ·have a1:(i:Int)<q:=by omega
   have d:∀x:Nm,(x.se=s.se/\x.tm/c.wh (c.F k)=s.we*q+i)↔zI c (c.F k) x=⟨c.F k,s.se,s.we*q+i⟩:=fun x=>by
    unfold zI;simp only[Sg.mk.injEq,true_and]
   have R:∀x∈ns,(x.se=s.se/\x.tm/c.wh (c.F k)=s.we*q+i)->zI c s.t x=s:=fun x b e=>(o x b).1 ⟨e.1,by omega,by omega⟩
   refine⟨fun v hv=>?_,fun hn x b e=>?_⟩
   ·have C:=jU hv
    obtain⟨y,D,e⟩:=h.has _ (jq C)
    have T:=(d y).2 e
    have X:v.st≠2:=fun G=>hR k H y D (R y D T) ⟨v,by rw[(d y).1 T];exact C,G⟩
    have hC:=h.cell _ C X
    refine⟨hC.congr (fun x _=>(d x).symm),fun h0=>qw.1 h0 y D T⟩
   ·have e1:=(d x).1 e
    rcases h.keys x b (c.F k) hF.1 (by omega)with z|z
    ·exact yC.1 hn (e1▸z)
    ·have hs:=R x b e
     have Q:zI c (k:Int) x=s:=by rw[<-H];exact hs
     rcases h.gone x b k A z with w|w
     ·rw[Q]at w;exact S.seg.disj _ (zY g) w
     ·rw[Q]at w;exact l w
 have a0:∀y,Wt (yi m.L s ⟨3,xQ (qk c m.L s.se s.we k)⟩) y->Wt m.L y:=fun y ⟨v,hv,G⟩=>by
  rcases qm hv with e|⟨hv,_⟩
  ·injection e with e1 e2;subst e2;simp at G
  ·exact⟨v,hv,G⟩
 refine⟨h.tm,fun x b t h1 G=>(h.keys x b t h1 G).imp (fun z=>xV.2 (.inl z)) id,fun y D=>?_,fun x b k' W w=>?_,h.over,fun p N P=>?_,fun p N=>((h.tg p (zZ.1 N).1).live a0)⟩
 ·rcases xV.1 D with D|rfl
  ·exact h.has y D
  ·exact h.has _ g
 ·rcases h.gone x b k' W w with z|⟨v,hv,h3⟩
  ·exact .inl z
  ·right
   by_cases e:zI c (k':Int) x=s
   ·rw[e];exact⟨_,Vy,rfl⟩
   ·exact⟨v,Vz hv e,h3⟩
 ·rcases qm N with rfl|⟨N,_⟩
  ·exact u
  ·exact h.cell p N P
theorem ZN.reclaimed(N:c.ok)(P:c.fits)(C:MOk c ep m)(h:ZN c m ns){j:Jk}{s:Sg}{si tc rest:Int}(G:zV m.TL j=O ⟨false,s,si,tc,rest⟩)(Q1:List (Tok×Lse)):
  ZN c {m with L:=xt m.L s,Gl:=qt m.Gl s (),TL:=xt m.TL j,QL:=Q1} ns:=by
 have M:=C.tg _ (zK G)
 have A:=(h.tg _ (zK G)).recl rfl
 have D:s∈zx m.L:=M.mem
 have n:∀y,y∈zx m.L->y≠s->y∈zx (xt m.L s):=fun y f u=>by
  obtain⟨p,d,rfl⟩:=List.mem_map.1 (show y∈m.L.map (·.1)from f)
  exact jq (zZ.2 ⟨d,u⟩)
 have z:∀y,Wt (xt m.L s) y->Wt m.L y:=fun y ⟨v,hv,i⟩=>⟨v,(zZ.1 hv).1,i⟩
 refine⟨h.tm,fun x b t H i=>?_,fun y f=>?_,fun x b k B g=>?_,fun y f=>?_,fun p d q=>h.cell p (zZ.1 d).1 q,fun p d=>((h.tg p (zZ.1 d).1).live z)⟩
 ·by_cases e:zI c t x=s
  ·exact .inr (xp.2 (.inr e))
  ·exact(h.keys x b t H i).imp (fun a=>n _ a e) (fun a=>xp.2 (.inl a))
 ·obtain⟨p,d,rfl⟩:=List.mem_map.1 (show y∈(xt m.L s).map (·.1)from f)
  exact h.has _ (jq (zZ.1 d).1)
 ·by_cases e:zI c (k:Int) x=s
  ·exact .inl (xp.2 (.inr e))
  ·have o:Pub m.L (zI c (k:Int) x)->Pub (xt m.L s) (zI c (k:Int) x):=fun⟨v,hv,r⟩=>⟨v,zZ.2 ⟨hv,e⟩,r⟩
   rcases xp.1 g with g|g
   ·exact(h.gone x b k B g).imp (fun a=>xp.2 (.inl a)) o
   ·have l:c.F k=s.t:=by rw[<-g];rfl
    have w:=A.2 x b (by rw[<-l];exact g) k B l
    rcases h.keys x b k (by omega) (by omega)with a|a
    ·right
     refine o ⟨_,zY a,?_⟩
     rcases C.seg.tier _ (zY a) (by show(0:Int)<=k;omega)with i|r
     ·exact absurd ⟨_,zY a,i⟩ w
     ·exact r
    ·exact .inl (xp.2 (.inl a))
 ·rcases xp.1 f with f|rfl
  ·exact h.over y f
  ·exact A.1
theorem ZN.act(e:c.ok)(f:c.fits){m':MS}{r:List Nm}(j:SOk c ep m ns.length)(h:ZN c m ns)(o:(ns.length:Int)<9223372036854775808)(C:VY c ep m ns m' r):ZN c m' r:=by
 cases C with
 |same=>exact h
 |added x d z A B H=>exact h.added e f j.ok d z A B
 |ticked n w l v hn q y G a=>
  have d:ZN c {m with now:=m.now+n,TL:=w,QL:=v} ns:=h.ticked (by omega) (zbK y) m.num
  have b:yZ c (m.now+n) m.L m.Gl:=(j.tick e f hn q y G a).1.ok.seg
  exact d.post e f b a
 |taken p slot a D=>exact h.ticked (Int.le_refl _) (fun p a=>⟨p,a,rfl,rfl⟩) _
 |failed t g x u i=>exact h.ticked (Int.le_refl _) (fun p a=>Kd i a) m.num
 |rolled t g s si tc rest k l u i F a=>
  have d:=h.rolled e f j.ok o i F (xt m.QL t)
  have b:=(j.ok.rolled u i rfl (xQ (qk c m.L s.se s.we k))).1.seg
  exact d.post e f b a
 |reclaimed t g s si tc rest l u i a=>
  have d:=h.reclaimed e f j.ok i (xt m.QL t)
  have b:=(j.ok.reclaimed u i rfl).1.seg
  exact d.post e f b a
theorem ZN.start(c:Cf)(now:Int):ZN c ⟨now,[],[],0,[],[]⟩ []:=
 ⟨fun x a=>(by cases a),fun x a=>(by cases a),fun s d=>(by cases d),fun x a=>(by cases a),fun s d=>(by cases d),fun p b=>(by cases b),fun p b=>(by cases b)⟩
inductive Told (c:Cf) (m:MS) (ns:List Nm) (x:Nm) (t:Int) (q:Cl×Int):Prop
 |opn (h1:¬c.clo m.now (zI c t x)) (h2:q=(qP,9))
 |ok (h1:c.clo m.now (zI c t x)) (h2:q.2=0) (h3:IsC (fun y=>zI c t y=zI c t x) ns q.1)
 |wait (h1:c.clo m.now (zI c t x)) (h2:q=(qP,11)) (h3:0<=t)
 |gone (h1:c.clo m.now (zI c t x)) (h2:q=(qP,12)) (h3:((zI c t x).we+1)*c.wh t+c.keep t<=m.now) (h4:∀k:Nat,k<c.n->c.F k=t->(yo c m.now m.Gl m.L k x.se (x.tm/c.wh k)).2=0\/(yo c m.now m.Gl m.L k x.se (x.tm/c.wh k)).2=12)
theorem VN{Gl:List (Sg×Unit)}{L:LV}{s:Sg}(h:s∈zv Gl):(stG Gl L s).st=4:=by
 unfold stG
 cases a:zV Gl s with
 |none=>exact absurd h (xB.1 a)
 |some u=>rfl
theorem QG{Gl:List (Sg×Unit)}{L:LV}{s:Sg}(h:s∉zv Gl):stG Gl L s=stL L s:=by
 unfold stG
 rw[xB.2 h]
theorem ZN.told(D:c.ok)(F:c.fits)(i:MOk c ep m)(h:ZN c m ns){x:Nm}(w:x∈ns){t:Int}(y: -1<=t)(z:t<c.n):Told c m ns x t (yo c m.now m.Gl m.L t x.se (x.tm/c.wh t)):=by
 by_cases d:c.clo m.now (zI c t x)
 ·have a:=d
  unfold Cf.clo at d
  have g:yo c m.now m.Gl m.L t x.se (x.tm/c.wh t)=qI (stG m.Gl m.L (zI c t x)):=by
   unfold yo
   rw[if_neg (by simp only[zI]at d;omega)]
   rfl
  by_cases l:zI c t x∈zv m.Gl
  ·have A:=VN (L:=m.L) l
   refine .gone a (by rw[g];unfold qI;rw[A];simp) (h.over _ l) (fun k q B=>?_)
   have o:=h.gone x w k q (by rw[B];exact l)
   have j:c.clo m.now (zI c (k:Int) x):=by
    rcases o with u|⟨v,hv,p⟩
    ·exact i.seg.goc _ u
    ·exact i.seg.pubc _ hv p
   have s:yo c m.now m.Gl m.L k x.se (x.tm/c.wh k)=qI (stG m.Gl m.L (zI c k x)):=by
    unfold yo
    unfold Cf.clo at j
    rw[if_neg (by simp only[zI]at j;omega)]
    rfl
   rw[s]
   rcases o with u|⟨v,hv,p⟩
   ·right;unfold qI;rw[VN u];simp
   ·left
    have r:zI c (k:Int) x∉zv m.Gl:=i.seg.disj _ hv
    have:=zY (jq hv)
    rw[QG r,vE i.seg.nl this hv]
    unfold qI;rw[p];simp
  ·have q:zI c t x∈zx m.L:=(h.keys x w t y z).resolve_right l
   have b:=zY q
   rw[QG l]at g
   by_cases C:t= -1
   ·have f:=(i.seg.raw _ b (by rw[C];rfl)).1
    simp only at f
    have e:qI (stL m.L (zI c t x))=((stL m.L (zI c t x)).cl,0):=by unfold qI;rw[f];simp
    refine .ok a (by rw[g,e]) ?_
    rw[g,e]
    exact h.cell _ b (by simp only;omega)
   ·rcases i.seg.tier _ b (by show 0<=t;omega)with f|f
    ·simp only at f
     exact .wait a (by rw[g];unfold qI;rw[f];simp) (by omega)
    ·simp only at f
     have e:qI (stL m.L (zI c t x))=((stL m.L (zI c t x)).cl,0):=by unfold qI;rw[f];simp
     refine .ok a (by rw[g,e]) ?_
     rw[g,e]
     exact h.cell _ b (by simp only;omega)
 ·refine .opn d ?_
  unfold Cf.clo at d
  unfold yo
  rw[if_pos (by simp only[zI]at d;omega)]
end
structure zbA(c:Cf)(m:MS)(r:RM):Prop where
 hc:r.c=c
 now:r.now=m.now
 gone:∀s,je s r.gone=true↔s∈zv m.Gl
 pub:∀s,je s r.pub=true↔Pub m.L s\/(0<=s.t/\s∈zv m.Gl)
 inv:ZN c m r.nu
section
variable {c:Cf} {ep:Int} {m:MS} {r:RM}
theorem zbA.there(h:zbA c m r){s:Sg}(d:s∈zS r.c r.nu): -1<=s.t/\s.t<c.n/\(s∈zx m.L\/s∈zv m.Gl):=by
 rw[h.hc]at d
 obtain⟨a,b,x,f,e⟩:=yT.1 d
 refine⟨a,b,?_⟩
 have:=h.inv.keys x f s.t a b
 rwa[<-e]at this
theorem zbA.seg(h:zbA c m r){s:Sg}(a: -1<=s.t/\s.t<c.n)(b:s∈zx m.L):s∈zS r.c r.nu:=by
 rw[h.hc,yT]
 obtain⟨x,d,e⟩:=h.inv.has s b
 exact⟨a.1,a.2,x,d,e.symm⟩
theorem zbA.wt(h:zbA c m r)(b:MOk c ep m){s:Sg}(l:s∈zS r.c r.nu)(j:0<=s.t):Wt m.L s↔(je s r.pub=false/\je s r.gone=false):=by
 obtain⟨p,q,k⟩:=h.there l
 constructor
 ·intro d
  obtain⟨f,n⟩:=KR b.seg.nl d
  have a:s∉zv m.Gl:=by
   obtain⟨v,hv,-⟩:=d
   exact b.seg.disj _ hv
  refine⟨?_,?_⟩
  ·rw[Bool.eq_false_iff,ne_eq,h.pub]
   rintro(⟨v,hv,e⟩|⟨-,e⟩)
   ·obtain⟨u,o,i⟩:=d
    have:=vE b.seg.nl o hv
    rw[this]at i;omega
   ·exact a e
  ·rw[Bool.eq_false_iff,ne_eq,h.gone];exact a
 ·rintro⟨g,a⟩
  rw[Bool.eq_false_iff,ne_eq,h.pub]at g
  rw[Bool.eq_false_iff,ne_eq,h.gone]at a
  have f:=k.resolve_right a
  have hv:=zY f
  rcases b.seg.tier _ hv j with e|e
  ·exact⟨_,hv,e⟩
  ·exact absurd (.inl ⟨_,hv,e⟩) g
end
section
variable {c:Cf} {ep:Int} {m:MS} {r:RM}
theorem Vs{s x:Sg}(o:0<=x.t)(p:x.t<c.n):onB c x s=true↔x∈kg c s:=by
 obtain⟨k,d⟩:∃k:Nat,x.t=k:=⟨x.t.toNat,by omega⟩
 have g:k<c.n:=by omega
 have j:c.wh x.t=c.W k:=by rw[d,vV]
 unfold onB kg K0
 rw[List.map_map,List.mem_map]
 constructor
 ·intro h
  split at h
  ·cases h
  ·rename_i hno
   simp only[not_or,ne_eq,Classical.not_not]at hno
   obtain⟨-,b,a⟩:=hno
   have e:s.we*c.wh s.t/c.wh x.t=x.we:=by simpa using h
   refine⟨k,List.mem_filter.2 ⟨by simpa using g,?_⟩,?_⟩
   ·rw[d,Int.toNat_natCast]at b
    simpa using b
   ·obtain⟨t,se,we⟩:=x
    simp only at d a e j ⊢
    show(⟨(k:Int),s.se,s.we*c.wh s.t/c.W k⟩:Sg)=⟨t,se,we⟩
    rw[<-j,e,d,a]
 ·rintro⟨i,l,rfl⟩
  obtain⟨m,f⟩:=List.mem_filter.1 l
  have b:c.F i=s.t:=by simpa using f
  simp only[Function.comp]at*
  rw[if_neg]
  ·rw[vV];simp
  ·rintro(h|h|h)
   ·omega
   ·exact h (by rw[Int.toNat_natCast];exact b)
   ·exact h rfl
theorem Xc(g:c.ok){L:LV}{k:Sg}(a:inR c k):XZ c L k=true↔∀x∈kg c k,(stL L x).st≠2:=by
 unfold XZ
 constructor
 ·intro h x l b
  obtain⟨y,d,rfl⟩:=List.mem_map.1 ((jF g a x).2 l)
  have i:((vC c k).filter (fun x=>(stL L x.1).st==2)).length=0:=by
   have:(((vC c k).filter (fun x=>(stL L x.1).st==2)).length:Int)=0:=by simpa using h
   omega
  have f:y∈(vC c k).filter (fun x=>(stL L x.1).st==2):=List.mem_filter.2 ⟨d,by simpa using b⟩
  rw[List.length_eq_zero_iff.1 i]at f
  cases f
 ·intro h
  have j:((vC c k).filter (fun y=>(stL L y.1).st==2))=[]:=by
   rw[List.filter_eq_nil_iff]
   intro y d e
   exact h y.1 ((jF g a y.1).1 (List.mem_map.2 ⟨y,d,rfl⟩)) (by simpa using e)
  rw[j];rfl
end
section
variable {c:Cf} {ep:Int} {m:MS} {r:RM}
theorem VO{L:LV}{x:Sg}(h:(stL L x).st=2):x∈zx L:=by
 apply Classical.byContradiction
 intro hn
 have:stL L x=⟨0,qP⟩:=by unfold stL;rw[yC.2 hn];rfl
 rw[this]at h;simp at h
theorem zkH{s x:Sg}(h:x∈kg c s):0<=x.t/\x.t<c.n:=by
 unfold kg K0 at h
 rw[List.map_map]at h
 obtain⟨j,a,rfl⟩:=List.mem_map.1 h
 have:=(List.mem_filter.1 a).1
 simp at this
 show 0<=(j:Int)/\(j:Int)<c.n
 omega
theorem zdL(H:c.ok)(g:MOk c ep m)(h:zbA c m r){s:Sg}(M:s∈zS r.c r.nu):qX r s (zS r.c r.nu)=true↔s∈zx m.L/\vo c m.L m.now s=true:=by
 obtain⟨Q,R,G⟩:=h.there M
 unfold qX qM vo
 rw[h.hc,h.now]at*
 simp only[Bool.and_eq_true,Bool.not_eq_true',decide_eq_false_iff_not,Bool.and_eq_false_iff,List.all_eq_true,beq_eq_false_iff_ne,decide_eq_true_eq,Bool.not_eq_false',ne_eq]
 have d:s∈zx m.L->((∀x∈zS c r.nu,Xx r s x=false)↔XZ c m.L s=true):=fun f=>by
  have y:=g.seg.inr _ (zY f)
  rw[Xc H y]
  constructor
  ·intro w x n a
   have b:=zkH n
   have o:x∈zS c r.nu:=by have:=h.seg ⟨by omega,b.2⟩ (VO a);rwa[h.hc]at this
   have N:Wt m.L x:=⟨_,zY (VO a),a⟩
   have k:=(h.wt g (by rw[h.hc];exact o) b.1).1 N
   have:=w x o
   unfold Xx at this
   rw[h.hc,(Vs b.1 b.2).2 n,k.1,k.2]at this
   cases this
  ·intro w x n
   cases i:Xx r s x with
   |false=>rfl
   |true=>
    unfold Xx at i
    simp only[Bool.and_eq_true,Bool.not_eq_true']at i
    obtain⟨⟨j,B⟩,u⟩:=i
    rw[h.hc]at j
    obtain⟨S,P,-⟩:=h.there (s:=x) (by rw[h.hc];exact n)
    have l:0<=x.t:=by
     apply Classical.byContradiction
     intro hn
     rw[on_1 (by omega)]at j;cases j
    obtain⟨-,a⟩:=KR g.seg.nl ((h.wt g (by rw[h.hc];exact n) l).2 ⟨B,u⟩)
    exact absurd a (w x ((Vs l P).1 j))
 constructor
 ·rintro⟨⟨⟨A,p⟩,D⟩,F⟩
  have q:s∉zv m.Gl:=fun e=>by rw[(h.gone s).2 e]at A;cases A
  have f:=G.resolve_right q
  refine⟨f,⟨fun a=>?_,?_⟩,(d f).1 F⟩
  ·have hv:=zY f
   rcases p with p|p
   ·have:=(g.seg.raw _ hv (by show s.t= -1;omega)).1
    simp only at this
    omega
   ·rcases(h.pub s).1 p with⟨v,z,e⟩|⟨-,e⟩
    ·have:=vE g.seg.nl hv z
     rw[<-this]at e;omega
    ·exact q e
  ·unfold Cf.end at D;omega
 ·rintro⟨f,⟨j,B⟩,u⟩
  have hv:=zY f
  have q:s∉zv m.Gl:=g.seg.disj _ hv
  refine⟨⟨⟨?_,?_⟩,?_⟩,(d f).2 u⟩
  ·rw[Bool.eq_false_iff,ne_eq,h.gone];exact q
  ·by_cases C:0<=s.t
   ·refine .inr ((h.pub s).2 (.inl ⟨_,hv,?_⟩))
    exact(g.seg.tier _ hv C).resolve_left j
   ·exact .inl C
  ·unfold Cf.end;omega
end
section
variable {c:Cf} {ep:Int} {m:MS} {r:RM}
theorem ziN(b:MOk c ep m){s:Sg}(d:s∈zx m.L)(f:(stL m.L s).st=2):0<=s.t/\s.t<c.n:=by
 have hv:=zY d
 have a:=b.seg.inr _ hv
 refine⟨?_,a.2.2.1⟩
 by_cases e:s.t= -1
 ·have:=(b.seg.raw _ hv e).1
  simp only at this
  omega
 ·have:=a.2.1
  simp only at this
  omega
theorem zdJ(f:MOk c ep m)(h:zbA c m r){v:List (Sg×Unit)}(D:∀x,x∈zv v↔∃k,k∈zx m.L/\(stL m.L k).st=2/\x∈kg c k){s:Sg}(o:s∈zS r.c r.nu):qE r s (zS r.c r.nu)=true↔s∈zx m.L/\vq c v m.L m.now s=true:=by
 obtain⟨V,C,W⟩:=h.there o
 have P:=o
 unfold qE kz vq
 rw[h.hc,h.now]at*
 simp only[Bool.and_eq_true,Bool.not_eq_true',decide_eq_false_iff_not,List.all_eq_true,beq_eq_false_iff_ne,beq_iff_eq,decide_eq_true_eq,ne_eq,Option.isNone_iff_eq_none]
 constructor
 ·rintro⟨⟨⟨⟨S,F⟩,G⟩,H⟩,M⟩
  have B:0<=s.t:=by omega
  obtain⟨n,d⟩:=KR f.seg.nl ((h.wt f (by rw[h.hc];exact o) B).2 ⟨F,G⟩)
  refine⟨n,⟨?_,d⟩,by unfold Cf.end at H;omega⟩
  rw[xB,D]
  rintro⟨k,i,l,N⟩
  have j:=ziN f i l
  have a:k∈zS c r.nu:=by have:=h.seg ⟨by omega,j.2⟩ i;rwa[h.hc]at this
  have b:=(h.wt f (by rw[h.hc];exact a) j.1).1 ⟨_,zY i,l⟩
  have:=M k a
  unfold Qp at this
  rw[h.hc,(Vs B C).2 N,b.1,decide_eq_true j.1]at this
  cases this
 ·rintro⟨n,⟨w,y⟩,T⟩
  have d:=ziN f n y
  have b:=(h.wt f (by rw[h.hc];exact o) d.1).1 ⟨_,zY n,y⟩
  refine⟨⟨⟨⟨by omega,b.1⟩,b.2⟩,by unfold Cf.end;omega⟩,fun x Q=>?_⟩
  cases g:Qp r s x with
  |false=>rfl
  |true=>
   unfold Qp at g
   simp only[Bool.and_eq_true,Bool.not_eq_true',decide_eq_true_eq]at g
   obtain⟨⟨z,A⟩,p⟩:=g
   rw[h.hc]at z
   have q:je x r.gone=false:=by
    rw[Bool.eq_false_iff,ne_eq,h.gone]
    intro e
    rw[(h.pub x).2 (.inr ⟨A,e⟩)]at p;cases p
   obtain⟨R,u⟩:=KR f.seg.nl ((h.wt f (by rw[h.hc];exact Q) A).2 ⟨p,q⟩)
   rw[xB,D]at w
   exact absurd ⟨x,R,u,(Vs d.1 C).1 z⟩ w
end
section
variable {c:Cf} {ep:Int} {m:MS} {r:RM} {ns:List Nm}
theorem zbS(m:c.ok)(o:c.fits){k s:Sg}{x:Nm}(q:0<=x.tm)(e:zI c k.t x=k)(f:s∈kg c k):∃j:Nat,j<c.n/\s.t=j/\c.F j=k.t/\zI c j x=s:=by
 unfold kg K0 at f
 rw[List.map_map]at f
 obtain⟨j,p,rfl⟩:=List.mem_map.1 f
 obtain⟨b,d⟩:=List.mem_filter.1 p
 have a:j<c.n:=by simpa using b
 have h:c.F j=k.t:=by simpa using d
 refine⟨j,a,rfl,h,?_⟩
 have g:=ziL m o q a
 rw[h]at g
 have i:x.se=k.se:=congrArg Sg.se e
 have l:x.tm/c.wh k.t=k.we:=congrArg Sg.we e
 show(⟨(j:Int),x.se,x.tm/c.wh j⟩:Sg)=⟨(j:Int),k.se,k.we*c.wh k.t/c.W j⟩
 rw[<-l,g,i,vV]
theorem zhQ(w:c.ok)(y:c.fits)(A:MOk c ep m)(f:ZN c m ns){d:List (Sg×Unit)}(u:∀x,x∈zv d↔∃k,k∈zx m.L/\(stL m.L k).st=2/\x∈kg c k){p:Jk×Tsk}(o:p∈m.TL)(q:p.2.rl=true):vq c d m.L m.now p.2.s=true:=by
 have n:=A.tg p o
 have i:=n.roll q
 have a:=n.clo
 unfold vq
 have h:zV d p.2.s=none:=by
  rw[xB,u]
  rintro⟨k,l,g,z⟩
  obtain⟨x,r,e⟩:=f.has k l
  obtain⟨j,B,b,v,t⟩:=zbS w y (f.tm x r).1 e z
  refine(f.tg p o).roll q j b x r (by rw[b];exact t) ?_
  rw[v,e]
  exact⟨_,zY l,g⟩
 rw[h,i]
 unfold Cf.clo at a
 simpa using a
theorem zhP(k:c.ok)(u:c.fits)(l:MOk c ep m)(b:ZN c m ns){p:Jk×Tsk}(n:p∈m.TL)(o:p.2.rl=false):vo c m.L m.now p.2.s=true:=by
 have g:=l.tg p n
 have i:=g.recl o
 obtain⟨h,f⟩:=(b.tg p n).recl o
 obtain⟨x,q,e⟩:=b.has p.2.s g.mem
 have d:=l.seg.inr _ (zY g.mem)
 unfold vo
 have v:XZ c m.L p.2.s=true:=(Xc k d).2 (fun y A a=>by
  obtain⟨j,w,z,t,r⟩:=zbS k u (b.tm x q).1 e A
  refine f x q e j w t ?_
  rw[r]
  exact⟨_,zY (VO a),a⟩)
 rw[v]
 simp only[Bool.and_true,Bool.and_eq_true,Bool.not_eq_true',beq_eq_false_iff_ne,ne_eq,decide_eq_true_eq]
 exact⟨i,h⟩
end
theorem Z8{c:Cf}{ep:Int}{m:MS}{r:RM}(y:c.ok)(A:c.fits)(i:MOk c ep m)(h:zbA c m r)(R:xx m.TL m.QL r.tg){g:List (Jk×Tsk)}(n:qU c m g):xx g m.QL r.settled.tg:=by
 obtain⟨Q,N,D,l⟩:=n.get i.nt
 have f:∀(k:Jk) (x:Tsk),zV m.TL k=O x->k=x.key/\x.s∈zx m.L/\(x.rl=true->vq c Q m.L m.now x.s=true)/\(x.rl=false->vo c m.L m.now x.s=true):=fun k x d=>by
  have n:=zK d
  exact⟨(i.tg _ n).key,(i.tg _ n).mem,fun e=>zhQ y A i h.inv N n e,fun e=>zhP y A i h.inv n e⟩
 have j:∀k,k∈zv g↔∃x,zV g k=O x:=fun k=>by
  constructor
  ·intro B
   obtain⟨p,F,rfl⟩:=List.mem_map.1 B
   exact⟨p.2,xu D F⟩
  ·rintro⟨x,d⟩
   exact List.mem_map.2 ⟨_,zK d,rfl⟩
 refine zbl y A i R h.now n (fun kind s C u=>?_) (fun k B=>?_)
 ·rw[j]
  rcases C with rfl|rfl
  ·have e:kj r 1 s (zS r.c r.nu)=qE r s (zS r.c r.nu):=by unfold kj;rw[if_pos rfl]
   rw[e,zdJ i h N u]
   constructor
   ·rintro⟨a,b⟩
    cases d:zV m.TL ⟨1,s⟩with
    |some x=>exact⟨x,(l _ _).2 (.inl d)⟩
    |none=>exact⟨_,(l _ _).2 (.inr ⟨d,s,a,.inl ⟨b,rfl,rfl⟩⟩)⟩
   ·rintro⟨x,d⟩
    rcases(l _ _).1 d with d|⟨-,P,a,⟨b,e,-⟩|⟨b,e,-⟩⟩
    ·obtain⟨o,v,H,-⟩:=f _ _ d
     unfold Tsk.key Tsk.kd at o
     injection o with w M
     rw[M]
     refine⟨v,H ?_⟩
     cases G:x.rl with
     |true=>rfl
     |false=>rw[G]at w;simp at w
    ·injection e with z q
     rw[q];exact⟨a,b⟩
    ·injection e with z q
     omega
  ·have e:kj r 2 s (zS r.c r.nu)=qX r s (zS r.c r.nu):=by unfold kj;rw[if_neg (by decide)]
   rw[e,zdL y i h u]
   constructor
   ·rintro⟨a,b⟩
    cases d:zV m.TL ⟨2,s⟩with
    |some x=>exact⟨x,(l _ _).2 (.inl d)⟩
    |none=>exact⟨_,(l _ _).2 (.inr ⟨d,s,a,.inr ⟨b,rfl,rfl⟩⟩)⟩
   ·rintro⟨x,d⟩
    rcases(l _ _).1 d with d|⟨-,P,a,⟨b,e,-⟩|⟨b,e,-⟩⟩
    ·obtain⟨o,v,-,H⟩:=f _ _ d
     unfold Tsk.key Tsk.kd at o
     injection o with w M
     rw[M]
     refine⟨v,H ?_⟩
     cases G:x.rl with
     |false=>rfl
     |true=>rw[G]at w;simp at w
    ·injection e with z q
     omega
    ·injection e with z q
     rw[q];exact⟨a,b⟩
 ·obtain⟨x,d⟩:=(j k).1 B
  have u:k.s∈zx m.L:=by
   rcases(l _ _).1 d with d|⟨-,P,a,⟨b,e,-⟩|⟨b,e,-⟩⟩
   ·obtain⟨o,v,-⟩:=f _ _ d
    rw[o];exact v
   ·rw[e];exact a
   ·rw[e];exact a
  have t:=i.seg.inr _ (zY u)
  exact h.seg ⟨t.2.1,t.2.2.1⟩ u
theorem zcK(c:Cf)(s:Sg)(nu:List Nm)(g:∀x∈nu,x.ok)(p:nu.length<=1000000000):IsC (fun x=>zI c s.t x=s) nu (xn c s nu):=by
 have h:∀k,k<=nu.length->IsC (fun x=>zI c s.t x=s) (nu.take k) (xn c s (nu.take k)):=by
  intro k
  induction k with
  |zero=>intro _;simp only[List.take_zero];exact IsC.zero (fun x f=>by cases f)
  |succ k d=>
   intro n
   have a:k<nu.length:=n
   have d:=d (Nat.le_of_lt a)
   have e:nu[k]?=O nu[k]:=List.getElem?_eq_getElem a
   rw[QN c s nu k _ e,List.take_succ_eq_append_getElem a]
   unfold qB
   by_cases b:zI c s.t nu[k]=s
   ·rw[if_pos b]
    have j:=d.add (x:=nu[k]) b
    have m:=kb (c:=c) (s:=s) (nu:=nu.take k) (fun x f=>g x (List.mem_of_mem_take f))
    have i:ziU (xn c s (nu.take k)) nu[k].val=jA (xn c s (nu.take k)) nu[k].val:=by
     unfold ziU jA
     have l:=g _ (List.getElem_mem a)
     unfold Nm.ok at l
     have o:(nu.take k).length<=1000000000:=by rw[List.length_take];omega
     rw[show wrap64 ((xn c s (nu.take k)).sum+nu[k].val)=(xn c s (nu.take k)).sum+nu[k].val by unfold wrap64;omega]
    rw[<-i];exact j
   ·rw[if_neg b];exact d.skip b
 have:=h nu.length (K _)
 simpa using this
theorem Qv{P Q R:Nm->Prop}[DecidablePred P][DecidablePred Q][DecidablePred R]:∀{ns:List Nm},(∀x∈ns,P x->Q x\/R x)->yB P ns<=yB Q ns+yB R ns
 |[],_=>by simp[yB]
 |x::ns,h=>by
  have c:=Qv (ns:=ns) (fun y b=>h y (by simp[b]))
  have a:=h x (by simp)
  simp only[yB]
  by_cases p:P x
  ·rcases a p with q|q
   ·rw[if_pos p,if_pos q];split<;>omega
   ·rw[if_pos p,if_pos q];split<;>omega
  ·rw[if_neg p];repeat' split
   all_goals omega
theorem zbE{P:Nm->Prop}[DecidablePred P]:∀{ns:List Nm},(∀x∈ns,P x)->yB P ns=ns.length
 |[],_=>rfl
 |x::ns,h=>by
  have b:=zbE (P:=P) (ns:=ns) (fun y a=>h y (by simp[a]))
  simp only[yB,List.length_cons]
  rw[if_pos (h x (by simp)),b];omega
theorem zeT{ns:List Nm}(h:∀T:Nat,yB (fun x=>x.tm=(T:Int)) ns<=400)(a:∀x∈ns,0<=x.tm):∀N:Nat,yB (fun x=>x.tm<(N:Int)) ns<=400*N
 |0=>by
  rw[qw.2 (fun x c e=>by have:=a x c;omega)];omega
 |N+1=>by
  have g:=zeT h a N
  have d:=h N
  have f:yB (fun x=>x.tm<((N+1:Nat):Int)) ns<=yB (fun x=>x.tm<(N:Int)) ns+yB (fun x=>x.tm=(N:Int)) ns:=Qv (fun x _ e=>by
   by_cases b:x.tm=(N:Int)
   ·exact .inr b
   ·left;omega)
  omega
theorem zcn{c:Cf}(m:c.ok){l:List Sg}(hn:l.Nodup)(h:∀k∈l,inR c k/\JZ k):l.length<=2000020:=by
 have j:=Xi (l.map zjR) (List.range 2000020) ?_ ?_
 ·simpa using j
 ·rw[List.nodup_iff_pairwise_ne,List.pairwise_map]
  refine(List.nodup_iff_pairwise_ne.1 hn).imp_of_mem ?_
  intro a b f g d e
  exact d (zco (h a f).1 (h a f).2 (h b g).1 (h b g).2 e)
 ·intro x n
  obtain⟨s,i,rfl⟩:=List.mem_map.1 n
  exact List.mem_range.2 (zgq m (h s i).1 (h s i).2)
structure xR(c:Cf)(ep:Int)(m:MS)(r:RM):Prop where
 ok:c.ok
 fits:c.fits
 sok:SOk c ep m r.nu.length
 tie:zbA c m r
 tsk:xx m.TL m.QL r.tg
 slot:∀q∈m.QL,0<=q.2.slot
 picks:r.picks=m.num
 epo:r.epoch=ep
 ghas:∀s∈zv m.Gl,∃x∈r.nu,zI c s.t x=s
 ng:r.gone.Nodup
 np:r.pub.Nodup
 full:∀T:Nat,yB (fun x=>x.tm=(T:Int)) r.nu<=400
 comp:ZM c m
section
variable {c:Cf} {ep:Int} {m:MS} {r:RM}
theorem xR.nu(h:xR c ep m r):∀x∈r.nu,x.ok:=fun x a=>by
 have b:=h.tie.inv.tm x a
 have d:=h.sok.ok.now
 unfold Nm.ok;omega
theorem xR.len(h:xR c ep m r):r.nu.length<=100000000:=by
 have b:=zeT h.full (fun x a=>(h.nu x a).2.2.1) 100001
 rw[zbE (fun x a=>by have d:=h.nu x a;unfold Nm.ok at d;omega)]at b
 omega
theorem xR.glen(h:xR c ep m r):r.gone.length<=2000020:=zcn h.ok h.ng (fun s b=>by
 have a:=(h.tie.gone s).1 (vf b)
 exact h.sok.gin s a)
theorem xR.plen(h:xR c ep m r):r.pub.length<=2000020:=zcn h.ok h.np (fun s b=>by
 rcases(h.tie.pub s).1 (vf b)with⟨v,hv,-⟩|⟨-,a⟩
 ·exact⟨h.sok.ok.seg.inr _ hv,h.sok.lin _ (jq hv)⟩
 ·exact h.sok.gin s a)
theorem xx.len{TL:List (Jk×Tsk)}{QL:List (Tok×Lse)}{l:List Tk}(h:xx TL QL l):l.length=TL.length:=by
 obtain⟨ts,a,-,rfl⟩:=h
 rw[List.length_map,a.length_eq,List.length_map]
theorem xR.klen(h:xR c ep m r):r.tg.length<=800:=by rw[h.tsk.len];exact h.sok.ok.t800 h.ok
theorem xR.hokr(h:xR c ep m r):r.c.ok:=by rw[h.tie.hc];exact h.ok
theorem xR.time(h:xR c ep m r):0<=r.now/\r.now<=100000:=by rw[h.tie.now];exact h.sok.ok.now
theorem xR.task(h:xR c ep m r):∀x∈r.tg,(0<=x.tc/\x.tc<=1000000000)/\(x.kind=1\/x.kind=2)/\zgr r.c x.s/\0<=x.si/\x.si<=r.now:=fun x e=>by
 obtain⟨p,d,rfl⟩:=(h.tsk.mem x).1 e
 have a:=h.sok.ok.tg p d
 have f:=h.sok.ok.now
 have b:=h.sok.ok.mem_inR a.mem
 have g:=a.tc
 refine⟨by show 0<=p.2.tc/\p.2.tc<=1000000000;omega,?_,?_,a.si.1,by rw[h.tie.now];exact a.si.2⟩
 ·show p.2.kd=1\/p.2.kd=2
  unfold Tsk.kd;split
  ·exact .inl rfl
  ·exact .inr rfl
 ·rw[h.tie.hc];exact b.2
theorem xR.inGl(h:xR c ep m r){s:Sg}:s∈r.gone↔s∈zv m.Gl:=by
 have:=h.tie.gone s
 unfold je at this;simpa using this
theorem xR.inPub(h:xR c ep m r){s:Sg}:s∈r.pub↔Pub m.L s\/(0<=s.t/\s∈zv m.Gl):=by
 have:=h.tie.pub s
 unfold je at this;simpa using this
theorem xR.segs(h:xR c ep m r)(s:Sg):s∈zS r.c r.nu↔s∈zx m.L\/s∈zv m.Gl:=by
 constructor
 ·intro b;exact(h.tie.there b).2.2
 ·rintro(b|b)
  ·have a:=h.sok.ok.mem_inR b
   exact h.tie.seg ⟨a.2.1,a.2.2.1⟩ b
  ·have a:=(h.sok.gin s b).1
   obtain⟨x,d,e⟩:=h.ghas s b
   rw[h.tie.hc,yT]
   exact⟨a.2.1,a.2.2.1,x,d,e.symm⟩
theorem xR.perm(h:xR c ep m r):(zS r.c r.nu).Perm (zx m.L++zv m.Gl):=by
 refine(List.perm_ext_iff_of_nodup (Qe _ _) ?_).2 (fun s=>by rw[h.segs,List.mem_append])
 rw[List.nodup_append]
 refine⟨h.sok.ok.seg.nl,h.sok.ok.seg.ng,fun a d b f e=>?_⟩
 subst e
 exact h.sok.ok.seg.disj _ (zY d) f
theorem xR.sum(h:xR c ep m r)(f:Sg->Int)(g:SV->Int)(e:Int)(d:∀p∈m.L,f p.1=g p.2)(i:∀s∈zv m.Gl,f s=e):xX ((zS r.c r.nu).map f)=xX (m.L.map (fun p=>g p.2))+e*m.Gl.length:=by
 rw[YD (h.perm.map f),List.map_append,YC]
 congr 1
 ·unfold zx
  rw[List.map_map]
  exact congrArg xX (List.map_congr_left (fun p j=>d p j))
 ·have:∀l:List Sg,(∀s∈l,f s=e)->xX (l.map f)=e*l.length:=by
   intro l
   induction l with
   |nil=>intro _;simp[xX]
   |cons a l n=>
    intro b
    rw[List.map_cons,xX,n (fun s k=>b s (by simp[k])),b a (by simp),List.length_cons]
    push_cast;rw[Int.mul_add];omega
  rw[this _ i]
  unfold zv;rw[List.length_map]
theorem xR.raw(h:xR c ep m r){p:Sg×SV}(e:p∈m.L)(a:p.2.st≠2):xn r.c p.1 r.nu=p.2.cl:=by
 have b:=zcK r.c p.1 r.nu h.nu (by have:=h.len;omega)
 have d:=h.tie.inv.cell p e a
 rw[h.tie.hc]at b ⊢
 exact b.one d
theorem xR.used(h:xR c ep m r):r.used=xg m.L:=by
 unfold RM.used vm
 rw[KN (jP r.c r.nu r.gone),h.sum _ yM 0 (fun p a=>?_) (fun s i=>?_)]
 ·unfold xg;omega
 ·have d:¬p.1∈r.gone:=fun e=>h.sok.ok.seg.disj p a (h.inGl.1 e)
  unfold jP yM
  rw[if_neg d]
  by_cases f:p.1.t= -1
  ·have g:=(h.sok.ok.seg.raw p a f).1
   rw[if_pos f,if_pos g,h.raw a (by omega)]
  ·have b:=h.sok.ok.seg.inr p a
   have g:=h.sok.ok.seg.tier p a (by have:=b.2.1;omega)
   rw[if_neg f,if_neg (by omega)]
 ·unfold jP
  rw[if_pos (h.inGl.2 i)]
theorem xR.ubound(h:xR c ep m r):0<=xg m.L/\xg m.L<=400:=h.sok.ok.seg.u0 h.ok
theorem xR.tight(h:xR c ep m r):r.tight=yx (xg m.L) c.qu:=by
 unfold RM.tight yx
 rw[h.used,h.tie.hc]
theorem ziK(r:RM):∀(l:List Sg) (a:Sc),l.foldl (vk r) a=⟨a.held+xX (l.map (fun s=>if s∈r.gone then 0 else if s.t= -1 then 1 else 0)),a.wait+xX (l.map (fun s=>if s∈r.gone then 0 else if s.t= -1 then 0 else if s∈r.pub then 0 else 1)),a.pub+xX (l.map (fun s=>if s∈r.gone then 0 else if s.t= -1 then 0 else if s∈r.pub then 1 else 0)),a.gone+xX (l.map (fun s=>if s∈r.gone then 1 else 0))⟩
 |[],a=>by simp[xX]
 |s::l,a=>by
  rw[List.foldl_cons,ziK r l]
  simp only[List.map_cons,xX]
  unfold vk
  by_cases b:s∈r.gone
  ·simp only[if_pos b];congr 1<;>omega
  ·by_cases c:s.t= -1
   ·simp only[if_neg b,if_pos c];congr 1<;>omega
   ·by_cases d:s∈r.pub
    ·simp only[if_neg b,if_neg c,if_pos d];congr 1<;>omega
    ·simp only[if_neg b,if_neg c,if_neg d];congr 1<;>omega
theorem xR.stats(h:xR c ep m r):zcm r (zS r.c r.nu)=⟨xU m.L 1,xU m.L 2,xU m.L 3,m.Gl.length⟩/\r.used=xg m.L/\r.tightI=yQ (yx (xg m.L) c.qu):=by
 have j:∀p∈m.L,¬p.1∈r.gone:=fun p d e=>h.sok.ok.seg.disj p d (h.inGl.1 e)
 have f:∀p∈m.L,p.1∈r.pub↔p.2.st=3:=fun p d=>by
  rw[h.inPub]
  constructor
  ·rintro(⟨v,hv,e⟩|⟨-,e⟩)
   ·rw[vE h.sok.ok.seg.nl d hv];exact e
   ·exact absurd e (h.sok.ok.seg.disj p d)
  ·intro e;exact .inl ⟨p.2,d,e⟩
 have i:∀p∈m.L,(p.1.t= -1/\p.2.st=1)\/(¬p.1.t= -1/\(p.2.st=2\/p.2.st=3)):=fun p d=>by
  have n:=h.sok.ok.seg.inr p d
  by_cases o:p.1.t= -1
  ·exact .inl ⟨o,(h.sok.ok.seg.raw p d o).1⟩
  ·exact .inr ⟨o,h.sok.ok.seg.tier p d (by have:=n.2.1;omega)⟩
 have u:∀p∈m.L,(fun s:Sg=>if s∈r.gone then(0:Int)else if s.t= -1 then 1 else 0) p.1=YP 1 p.2:=fun p d=>by
  dsimp only
  rw[if_neg (j p d)]
  unfold YP
  rcases i p d with⟨a,b⟩|⟨a,b⟩
  ·rw[if_pos a,if_pos b]
  ·rw[if_neg a,if_neg (by omega)]
 have w:∀p∈m.L,(fun s:Sg=>if s∈r.gone then(0:Int)else if s.t= -1 then 0 else if s∈r.pub then 0 else 1) p.1=YP 2 p.2:=fun p d=>by
  dsimp only
  rw[if_neg (j p d)]
  unfold YP
  rcases i p d with⟨a,b⟩|⟨a,b⟩
  ·rw[if_pos a,if_neg (by omega)]
  ·rw[if_neg a]
   by_cases e:p.2.st=3
   ·rw[if_pos ((f p d).2 e),if_neg (by omega)]
   ·rw[if_neg (fun k=>e ((f p d).1 k)),if_pos (by omega)]
 have x:∀p∈m.L,(fun s:Sg=>if s∈r.gone then(0:Int)else if s.t= -1 then 0 else if s∈r.pub then 1 else 0) p.1=YP 3 p.2:=fun p d=>by
  dsimp only
  rw[if_neg (j p d)]
  unfold YP
  rcases i p d with⟨a,b⟩|⟨a,b⟩
  ·rw[if_pos a,if_neg (by omega)]
  ·rw[if_neg a]
   by_cases e:p.2.st=3
   ·rw[if_pos ((f p d).2 e),if_pos e]
   ·rw[if_neg (fun k=>e ((f p d).1 k)),if_neg e]
 have y:∀p∈m.L,(fun s:Sg=>if s∈r.gone then(1:Int)else 0) p.1=(fun _:SV=>(0:Int)) p.2:=fun p d=>by
  dsimp only
  rw[if_neg (j p d)]
 refine⟨?_,h.used,?_⟩
 ·unfold zcm
  rw[ziK,h.sum _ (YP 1) 0 u (fun s g=>by rw[if_pos (h.inGl.2 g)]),h.sum _ (YP 2) 0 w (fun s g=>by rw[if_pos (h.inGl.2 g)]),h.sum _ (YP 3) 0 x (fun s g=>by rw[if_pos (h.inGl.2 g)]),h.sum _ (fun _=>0) 1 y (fun s g=>by rw[if_pos (h.inGl.2 g)])]
  have q:xX (m.L.map (fun _=>(0:Int)))=0:=by
   generalize m.L=l
   induction l with
   |nil=>rfl
   |cons a l z=>rw[List.map_cons,xX,z];rfl
  rw[q]
  unfold xU
  dsimp only
  congr 1<;>omega
 ·unfold RM.tightI yQ
  rw[h.tight]
  cases yx (xg m.L) c.qu<;>rfl
theorem xR.query(h:xR c ep m r){t se we:Int}(j:¬(t< -1\/r.c.n<=t\/se<0\/4<=se\/we<0\/100000<we)):r.query t se we=yo c m.now m.Gl m.L t se we:=by
 have g:r.c.end ⟨t,se,we⟩=(we+1)*c.wh t:=by rw[h.tie.hc];rfl
 have o:r.c.la=c.la:=by rw[h.tie.hc]
 by_cases f:r.now-r.c.la<r.c.end ⟨t,se,we⟩
 ·rw[KG j f]
  unfold yo
  rw[g,o,h.tie.now]at f
  rw[if_pos f];rfl
 ·have p:=f
  rw[g,o,h.tie.now]at p
  have w:=J9 (c:=r.c) (nu:=r.nu) (s:=⟨t,se,we⟩) (by show-1<=t;omega) (by show t<r.c.n;omega)
  unfold yo
  rw[if_neg p]
  by_cases q:(⟨t,se,we⟩:Sg)∈zS r.c r.nu
  ·have d:¬(xn r.c ⟨t,se,we⟩ r.nu).cnt=0:=fun e=>w.1 e q
   by_cases k:(⟨t,se,we⟩:Sg)∈zv m.Gl
   ·rw[KF j f d (h.inGl.2 k)]
    unfold qI;rw[VN k];rfl
   ·have y:=((h.segs _).1 q).resolve_right k
    have i:¬(⟨t,se,we⟩:Sg)∈r.gone:=fun e=>k (h.inGl.1 e)
    have a:=zY y
    rw[QG k]
    have u:(⟨t,se,we⟩:Sg)∈r.pub↔(stL m.L ⟨t,se,we⟩).st=3:=by
     rw[h.inPub]
     constructor
     ·rintro(⟨v,hv,e⟩|⟨-,e⟩)
      ·rw[vE h.sok.ok.seg.nl a hv];exact e
      ·exact absurd e k
     ·intro e;exact .inl ⟨_,a,e⟩
    by_cases z:t= -1
    ·have b:=(h.sok.ok.seg.raw _ a z).1
     dsimp only at b
     have l:=h.raw a (by dsimp only;omega)
     dsimp only at l
     rw[VA j f d i (by omega),l]
     unfold qI;rw[b];rfl
    ·rcases h.sok.ok.seg.tier _ a (by show 0<=t;omega)with b|b
     ·dsimp only at b
      rw[KH j f d i ⟨by omega,fun e=>by have:=u.1 e;omega⟩]
      unfold qI;rw[b];rfl
     ·dsimp only at b
      have l:=h.raw a (by dsimp only;omega)
      dsimp only at l
      rw[VA j f d i (fun e=>e.2 (u.2 b)),l]
      unfold qI;rw[b];rfl
  ·rw[Yt j f (w.2 q)]
   have b:(⟨t,se,we⟩:Sg)∉zv m.Gl:=fun e=>q ((h.segs _).2 (.inr e))
   have x:(⟨t,se,we⟩:Sg)∉zx m.L:=fun e=>q ((h.segs _).2 (.inl e))
   rw[QG b]
   have:stL m.L ⟨t,se,we⟩=⟨0,qP⟩:=by unfold stL;rw[yC.2 x];rfl
   rw[this];rfl
end
def xM(c:Cf)(m:MS)(se tm val:Int):MS×Int:=
 if se<0\/4<=se then(m,2)
 else if tm<0\/m.now<tm then(m,5)
 else if tm<m.now-c.la then(m,3)
 else if c.qu<xg m.L+(1+2*yh c m.L ⟨se,tm,val⟩ c.n)then(m,4)
 else({m with L:=kJ c m.L ⟨se,tm,val⟩},0)
theorem Ki{now:Int}:∀(a:List Sg) {T:List (Jk×Tsk)},(∀s∈a,(⟨1,s⟩:Jk)∈zv T)->a.foldl (qW now) T=T
 |[],T,_=>rfl
 |y::a,T,h=>by
  have e:qW now T y=T:=by
   unfold qW
   cases b:zV T ⟨1,y⟩with
   |some x=>rfl
   |none=>exact absurd (h y (by simp)) (xB.1 b)
  rw[List.foldl_cons,e];exact Ki a (fun s c=>h s (by simp[c]))
theorem Kh{now:Int}:∀(a:List Sg) {T:List (Jk×Tsk)},(∀s∈a,(⟨2,s⟩:Jk)∈zv T)->a.foldl (yF now) T=T
 |[],T,_=>rfl
 |y::a,T,h=>by
  have e:yF now T y=T:=by
   unfold yF
   cases b:zV T ⟨2,y⟩with
   |some x=>rfl
   |none=>exact absurd (h y (by simp)) (xB.1 b)
  rw[List.foldl_cons,e];exact Kh a (fun s c=>h s (by simp[c]))
section
variable {c:Cf} {ep:Int} {m:MS} {r:RM}
theorem ZM.posted(h:ZM c m):qU c m m.TL:=by
 obtain⟨b,f,d,e⟩:=h
 refine⟨⟨b,(zx m.L).filter (fun s=>vq c b m.L m.now s),(zx m.L).filter (fun s=>vo c m.L m.now s),f,fun s=>List.mem_filter,fun s=>List.mem_filter,?_⟩⟩
 rw[Ki _ (fun s a=>d s (List.mem_filter.1 a).1 (List.mem_filter.1 a).2),Kh _ (fun s a=>e s (List.mem_filter.1 a).1 (List.mem_filter.1 a).2)]
theorem Jr(l:List Sg):zv (l.map (fun s=>(s,())))=l:=by
 unfold zv
 rw[List.map_map]
 simp[Function.comp_def]
theorem ZM.added(l:c.ok)(W:c.fits){x:Nm}(C:MOk c ep m)(q:MOk c ep {m with L:=kJ c m.L x})(h:ZM c m)(H:m.now-c.la<=x.tm):ZM c {m with L:=kJ c m.L x}:=by
 obtain⟨N,T,Q,R⟩:=h
 have X:=l.n1
 have r:(zx (kJ c m.L x)).Nodup:=q.seg.nl
 have f:∀s,s∈zx (kJ c m.L x)->c.clo m.now s->s∈zx m.L/\stL (kJ c m.L x) s=stL m.L s:=fun s n a=>by
  have z:=zY n
  rcases ZO z with e|⟨e,-⟩|⟨j,hj,e,-⟩
  ·exfalso
   injection e with A P
   refine Z7 l (t:= -1) (x:=x) (by omega) (by omega) H ?_
   rw[show zI c (-1) x=s from A.symm];exact a
  ·exact⟨jq e,vE C.seg.nl e (zY (jq e))⟩
  ·exfalso
   injection e with A P
   refine Z7 l (t:=(j:Int)) (x:=x) (by omega) (by omega) H ?_
   rw[<-A];exact a
 have M:∀k,k∈zx m.L->(stL m.L k).st=2->k∈zx (kJ c m.L x)/\(stL (kJ c m.L x) k).st=2:=fun k g b=>by
  have z:=zY g
  have F:k≠xq c x:=fun e=>by
   have:=(C.seg.raw _ z (by rw[e];rfl)).1
   dsimp only at this;omega
  have i:=KT (c:=c) (x:=x) z F
  have p:=jq i
  refine⟨p,?_⟩
  rw[vE r (zY p) i];exact b
 refine⟨((((zx (kJ c m.L x)).filter (fun k=>decide ((stL (kJ c m.L x) k).st=2))).flatMap (kg c)).map (fun s=>(s,()))),fun y=>?_,fun s n d=>?_,fun s n d=>?_⟩
 ·rw[Jr,List.mem_flatMap]
  constructor
  ·rintro⟨k,g,v⟩
   obtain⟨i,B⟩:=List.mem_filter.1 g
   exact⟨k,i,of_decide_eq_true B,v⟩
  ·rintro⟨k,i,B,v⟩
   exact⟨k,List.mem_filter.2 ⟨i,decide_eq_true B⟩,v⟩
 ·obtain⟨a,b⟩:=zcj d
  obtain⟨g,w⟩:=f s n a
  refine Q s g ?_
  have D:s∉zv N:=fun V=>by
   obtain⟨k,Y,Z,k3⟩:=(T s).1 V
   obtain⟨k4,k5⟩:=M k Y Z
   unfold vq at d
   cases G:zV ((((zx (kJ c m.L x)).filter (fun k=>decide ((stL (kJ c m.L x) k).st=2))).flatMap (kg c)).map (fun s=>(s,()))) s with
   |some u=>rw[G]at d;simp at d
   |none=>
    refine xB.1 G ?_
    rw[Jr]
    exact List.mem_flatMap.2 ⟨k,List.mem_filter.2 ⟨k4,decide_eq_true k5⟩,k3⟩
  unfold vq
  dsimp only at w b
  rw[w]at b
  rw[xB.2 D,b]
  unfold Cf.clo at a
  simpa using a
 ·obtain⟨a,b⟩:=zci l W q.seg n d
  obtain⟨g,w⟩:=f s n a
  refine R s g ?_
  unfold vo at d ⊢
  simp only[Bool.and_eq_true]at d ⊢
  rw[w]at d
  refine⟨d.1,?_⟩
  have o:=C.mem_inR g
  rw[Xc l o]
  have S:=(Xc l o).1 d.2
  exact fun y v e=>S y v (M y (VO e) e).2
theorem zbF{α:Type}[DecidableEq α](f:Nm->α)(ns:List Nm):∀ks:List α,yB (fun x=>f x∈ks) ns<=xX (ks.map (fun k=>yB (fun x=>f x=k) ns))
 |[]=>by
  rw[qw.2 (fun x _ h=>by cases h)];simp[xX]
 |k::ks=>by
  have a:=zbF f ns ks
  rw[List.map_cons,xX]
  refine Int.le_trans (Qv (Q:=fun x=>f x=k) (R:=fun x=>f x∈ks) (fun x _ h=>by simpa using h)) ?_
  omega
theorem zcw:∀(l:List Int),(∀x∈l,0<=x)->0<=xX l
 |[],_=>by simp[xX]
 |a::l,h=>by
  have c:=h a (by simp)
  have d:=zcw l (fun x b=>h x (by simp[b]))
  simp only[xX];omega
theorem zhx(d:c.ok)(a:MOk c ep m){ns:List Nm}(l:ZN c m ns){T:Int}(y:m.now-c.la<=T):yB (fun x=>x.tm=T) ns<=400:=by
 have q:=d.n1
 have o:yB (fun x=>x.tm=T) ns<=yB (fun x=>xq c x∈zx m.L) ns+yB (fun _=>False) ns:=Qv (fun x i e=> .inl (by
  rcases l.keys x i (-1) (by omega) (by omega)with h|h
  ·exact h
  ·exact absurd h (kD d a (x:=x) (by omega) (by omega) (by omega))))
 rw[show yB (fun _=>False) ns=0 from qw.2 (fun _ _ h=>h)]at o
 have r:=zbF (xq c) ns (zx m.L)
 have s:xX ((zx m.L).map (fun k=>yB (fun x=>xq c x=k) ns))=XE m.L:=by
  unfold zx XE
  rw[List.map_map]
  refine congrArg xX (List.map_congr_left (fun p b=>?_))
  dsimp only[Function.comp]
  unfold yP
  by_cases g:p.1.t= -1
  ·have n:=(a.seg.raw p b g).1
   rw[if_pos n,(l.cell p b (by omega)).cnt]
   refine(jS (fun x _=>?_)).1
   rw[g];exact Iff.rfl
  ·have f:=a.seg.inr p b
   have n:=a.seg.tier p b (by have:=f.2.1;omega)
   rw[if_neg (by omega)]
   exact qw.2 (fun x _ e=>g (by rw[<-e];rfl))
 have u:=KQ m.L a.seg.sts
 have v:=a.seg.used
 have w:=d.qu
 have j:∀k,0<=xU m.L k:=fun k=>by
  unfold xU
  refine zcw _ (fun x i=>?_)
  obtain⟨p,-,rfl⟩:=List.mem_map.1 i
  unfold YP;split<;>omega
 have:=j 2
 have:=j 3
 omega
theorem xR.cost(h:xR c ep m r){x:Nm}(g:m.now-c.la<=x.tm):∀k:Nat,k<=c.n->yk r (zS r.c r.nu) x k=xg m.L+1+2*yh c m.L x k
 |0,_=>by
  have:=h.used
  simp[yk,yh,this]
 |k+1,j=>by
  have i:=h.cost g k (by omega)
  have f:zI c (k:Int) x∉zv m.Gl:=kD h.ok h.sok.ok g (by omega) (by omega)
  have b:=h.tie.hc
  by_cases d:zI r.c (k:Int) x∈zS r.c r.nu
  ·have a:zI c (k:Int) x∈zx m.L:=by
    have:=(h.segs _).1 d
    rw[b]at this
    exact this.resolve_right f
   rw[zaJ d,i];simp[yh,a]
  ·have a:¬zI c (k:Int) x∈zx m.L:=fun e=>d ((h.segs _).2 (.inl (by rw[b];exact e)))
   rw[V7 d,i];simp only[yh,if_neg a];omega
theorem xR.ingest(h:xR c ep m r)(se tm val:Int)(t: -2147483648<=val/\val<=2147483647):(r.ingest se tm val).2=(xM c m se tm val).2/\xR c ep (xM c m se tm val).1 (r.ingest se tm val).1:=by
 have a:=h.tie.now
 have b:=h.tie.hc
 by_cases f:se<0\/4<=se
 ·rw[XG f,show xM c m se tm val=(m,2)from by unfold xM;rw[if_pos f]]
  exact⟨rfl,h⟩
 by_cases k:tm<0\/m.now<tm
 ·rw[ZA f (by rw[a];exact k),show xM c m se tm val=(m,5)from by unfold xM;rw[if_neg f,if_pos k]]
  exact⟨rfl,h⟩
 by_cases o:tm<m.now-c.la
 ·rw[Yc f (by rw[a];exact k) (by rw[a,b];exact o),show xM c m se tm val=(m,3)from by unfold xM;rw[if_neg f,if_neg k,if_pos o]]
  exact⟨rfl,h⟩
 have w:m.now-c.la<=(⟨se,tm,val⟩:Nm).tm:=by show m.now-c.la<=tm;omega
 have g:=h.cost w c.n (K _)
 by_cases B:c.qu<xg m.L+(1+2*yh c m.L ⟨se,tm,val⟩ c.n)
 ·rw[Yb f (by rw[a];exact k) (by rw[a,b];exact o) (by rw[b]at g ⊢;rw[g];omega),show xM c m se tm val=(m,4)from by unfold xM;rw[if_neg f,if_neg k,if_neg o,if_pos B]]
  exact⟨rfl,h⟩
 rw[Jn f (by rw[a];exact k) (by rw[a,b];exact o) (by rw[b]at g ⊢;rw[g];omega),show xM c m se tm val=({m with L:=kJ c m.L ⟨se,tm,val⟩},0)from by unfold xM;rw[if_neg f,if_neg k,if_neg o,if_neg B]]
 have A:VY c ep m r.nu {m with L:=kJ c m.L ⟨se,tm,val⟩} (r.nu++[⟨se,tm,val⟩]):=.added m r.nu ⟨se,tm,val⟩ ⟨by show 0<=se;omega,by show se<4;omega⟩ ⟨by show 0<=tm;omega,by show tm<=m.now;omega⟩ w t (by omega)
 have i:=A.ok h.ok h.fits h.sok
 have q:=h.tie.inv.act h.ok h.fits h.sok (by have:=h.len;omega) A
 have p:=h.comp.added h.ok h.fits h.sok.ok i.ok w
 have y:=h.sok.ok.seg
 have d:zbA c {m with L:=kJ c m.L ⟨se,tm,val⟩} {r with nu:=r.nu++[⟨se,tm,val⟩]}:=by
  refine⟨b,a,h.tie.gone,fun s=>?_,q⟩
  rw[h.tie.pub s]
  refine or_congr ⟨fun⟨v,hv,l⟩=>⟨v,KT hv (fun e=>?_),l⟩,fun⟨v,hv,l⟩=>?_⟩ Iff.rfl
  ·have D:=(y.raw _ hv (by rw[show s=xq c ⟨se,tm,val⟩from e];rfl)).1
   dsimp only at D;omega
  ·rcases ZO hv with e|⟨e,-⟩|⟨j,H,e,-⟩
   ·injection e with C u;rw[u]at l;simp at l
   ·exact⟨v,e,l⟩
   ·injection e with C u;rw[u]at l;simp at l
 have z:=Z8 h.ok h.fits i.ok d h.tsk p.posted
 refine⟨rfl,⟨h.ok,h.fits,i,⟨d.hc,d.now,d.gone,d.pub,d.inv⟩,z,h.slot,h.picks,h.epo,fun s F=>?_,h.ng,h.np,fun T=>?_,p⟩⟩
 ·obtain⟨x,G,e⟩:=h.ghas s F
  exact⟨x,List.mem_append_left _ G,e⟩
 ·show yB (fun x=>x.tm=(T:Int)) (r.nu++[⟨se,tm,val⟩])<=400
  by_cases e:tm=(T:Int)
  ·exact zhx h.ok i.ok q (by show m.now-c.la<=_;omega)
  ·rw[(ZY _ _).1,if_neg e]
   have:=h.full T
   omega
end
structure ExpF(n:Int)(TL:List (Jk×Tsk))(QL:List (Tok×Lse))(T1:List (Jk×Tsk))(Q1:List (Tok×Lse))(D:List Jk):Prop where
 tl:T1=TL.map (fun p=>if p.1∈D then(p.1,p.2.failed n)else p)
 sub:∀q∈Q1,q∈QL
 out:∀q∈QL,q∈Q1\/(q.2.job∈D/\q.2.til<=n)
 inn:∀q∈Q1,q.2.job∉D
 has:∀k∈D,∃q∈QL,q.2.job=k
 nq:(zv Q1).Nodup
 jobs:(Q1.map (fun q=>q.2.job)).Nodup
theorem Jb{n:Int}{TL:List (Jk×Tsk)}{QL:List (Tok×Lse)}(nt:(zv TL).Nodup)(nq:(zv QL).Nodup)(jobs:(QL.map (fun q=>q.2.job)).Nodup){i:List (Jk×Tsk)}{Q1:List (Tok×Lse)}(h:zbz n TL QL i Q1):∃D,ExpF n TL QL i Q1 D:=by
 induction h with
 |nil=>exact⟨[],by simp,fun q h=>h,fun q h=> .inl h,fun q _=>by simp,fun k m=>(by cases m),nq,jobs⟩
 | @step i Q1 t g x _ z r F G=>
  obtain⟨D,i1,i2,i3,i4,i5,A,B⟩:=G
  have c:=zK z
  have d:g.job∉D:=i4 _ c
  have w:zV i g.job=O x:=F
  have f:=zK w
  have y:(g.job,x)∈TL:=by
   rw[i1]at f
   obtain⟨p,u,e⟩:=List.mem_map.1 f
   by_cases a:p.1∈D
   ·rw[if_pos a]at e
    injection e with C H
    exact absurd (C▸a) d
   ·rw[if_neg a]at e
    rw[<-e];exact u
  refine⟨g.job::D,?_,fun q j=>i2 q (zZ.1 j).1,fun q j=>?_,fun q j=>?_,fun k m=>?_,qr A,jX B _⟩
  ·show qt i g.job (x.failed n)=_
   unfold qt
   rw[if_pos (show g.job∈zv i from List.mem_map.2 ⟨_,f,rfl⟩),i1,List.map_map]
   refine List.map_congr_left (fun p u=>?_)
   dsimp only[Function.comp]
   by_cases a:p.1∈D
   ·have s:¬p.1=g.job:=fun e=>d (e▸a)
    simp[a,s]
   ·by_cases e:p.1=g.job
    ·have b:zV TL p.1=O p.2:=xu nt u
     have o:zV TL g.job=O x:=xu nt y
     rw[e,o]at b
     injection b with b
     have v:p=(g.job,x):=Prod.ext e b.symm
     subst v
     simp[d]
    ·simp[a,e]
  ·rcases i3 q j with b|⟨b,o⟩
   ·by_cases e:q.1=t
    ·have l:zV Q1 q.1=O q.2:=xu A b
     rw[e,z]at l
     injection l with l
     exact .inr ⟨by rw[<-l];simp,by rw[<-l];exact r⟩
    ·exact .inl (zZ.2 ⟨b,e⟩)
   ·exact .inr ⟨List.mem_cons_of_mem _ b,o⟩
  ·intro a
   rcases List.mem_cons.1 a with e|a
   ·exact jH B c j e
   ·exact i4 q (zZ.1 j).1 a
  ·rcases List.mem_cons.1 m with rfl|m
   ·exact⟨_,i2 _ c,rfl⟩
   ·exact i5 k m
theorem xx.expired{n:Int}{TL r:List (Jk×Tsk)}{QL Q1:List (Tok×Lse)}{D:List Jk}{l:List Tk}(G:∀p∈TL,p.1=p.2.key)(j:∀q∈QL,0<=q.2.slot)(h:xx TL QL l)(f:ExpF n TL QL r Q1 D)(L:∀p∈Q1,n<p.2.til):xx r Q1 (l.map (zap n)):=by
 obtain⟨ts,v,M,rfl⟩:=h
 refine⟨ts.map (fun z=>if z.key∈D then z.failed n else z),?_,?_,?_⟩
 ·have e:r.map (·.2)=(TL.map (·.2)).map (fun z=>if z.key∈D then z.failed n else z):=by
   rw[f.tl,List.map_map,List.map_map]
   refine List.map_congr_left (fun p H=>?_)
   dsimp only[Function.comp]
   rw[<-G p H]
   split<;>rfl
  rw[e];exact v.map _
 ·rw[List.pairwise_map]
  refine M.imp (fun{a b} h=>?_)
  have B:∀z:Tsk,(if z.key∈D then z.failed n else z).kd=z.kd/\(if z.key∈D then z.failed n else z).s=z.s:=fun z=>by split<;>exact⟨rfl,rfl⟩
  have y:=B a
  have A:=B b
  rw[qv]at h ⊢
  rw[y.1,y.2,A.1,A.2]
  exact h
 ·rw[List.map_map,List.map_map]
  refine List.map_congr_left (fun z P=>?_)
  dsimp only[Function.comp]
  rcases jW QL z with⟨q,m,g,e⟩|⟨hn,e⟩
  ·rcases f.out q m with d|⟨d,w⟩
   ·have c:z.key∉D:=g▸f.inn q d
    rw[if_neg c]
    have k:vN Q1 z=(q.1,q.2.slot,q.2.til):=Xe f.jobs d g
    have C:yO QL z=yO Q1 z:=vT (e.trans k.symm)
    rw[C]
    unfold zap
    rw[if_neg]
    rintro⟨-,F⟩
    have x:(yO Q1 z).till=q.2.til:=by show(vN Q1 z).2.2=_;rw[k]
    have:=L q d
    omega
   ·have c:z.key∈D:=g▸d
    rw[if_pos c]
    have u:vN Q1 (z.failed n)=(⟨0,0⟩,-1,0):=jG (fun o i t=>f.inn o i (by rw[show o.2.job=z.key from t];exact c))
    unfold zap
    rw[if_pos]
    ·unfold Tk.fail yO
     rw[u]
     rfl
    ·have x:(yO QL z).till=q.2.til:=by show(vN QL z).2.2=_;rw[e]
     have N:(yO QL z).slot=q.2.slot:=by show(vN QL z).2.1=_;rw[e]
     have:=j q m
     omega
  ·have c:z.key∉D:=fun c=>by
    obtain⟨q,d,w⟩:=f.has _ c
    exact hn q d w
   rw[if_neg c]
   have k:vN Q1 z=(⟨0,0⟩,-1,0):=jG (fun o i t=>hn o (f.sub o i) t)
   rw[vT (e.trans k.symm)]
   unfold zap
   rw[if_neg]
   rintro⟨F,-⟩
   have x:(yO Q1 z).slot= -1:=by show(vN Q1 z).2.1=_;rw[k]
   omega
section
variable {c:Cf} {ep:Int} {m:MS} {r:RM}
theorem xR.tick_bad(h:xR c ep m r){n:Int}(a:n<1\/1000<n\/100000<m.now+n):r.tickL n=(r,5):=Xo (by rw[h.tie.now];exact a)
theorem xR.tick(h:xR c ep m r){n:Int}(hn:1<=n/\n<=1000)(f:m.now+n<=100000){b e:List (Jk×Tsk)}{a:List (Tok×Lse)}(i:zbz (m.now+n) m.TL m.QL b a)(o:∀p∈a,m.now+n<p.2.til)(g:qU c {m with now:=m.now+n,TL:=b,QL:=a} e):(r.tickL n).2=0/\xR c ep {m with now:=m.now+n,TL:=e,QL:=a} (r.tickL n).1:=by
 have w:r.tickL n=({r with now:=r.now+n,tg:=r.tg.map (zap (r.now+n))}.settled,0):=zcA (by rw[h.tie.now];omega)
 rw[w]
 refine⟨rfl,?_⟩
 have l:=h.sok.ok.exps (n':=m.now+n) ⟨by omega,f⟩ i o
 obtain⟨D,u⟩:=Jb h.sok.ok.nt h.sok.ok.nq h.sok.ok.jobs i
 have j:ZN c {m with now:=m.now+n,TL:=b,QL:=a} r.nu:=h.tie.inv.ticked (by omega) (zbK i) m.num
 have d:zbA c {m with now:=m.now+n,TL:=b,QL:=a} {r with now:=r.now+n,tg:=r.tg.map (zap (r.now+n))}:=⟨h.tie.hc,by show r.now+n=m.now+n;rw[h.tie.now],h.tie.gone,h.tie.pub,j⟩
 have k:xx b a (r.tg.map (zap (r.now+n))):=by
  rw[h.tie.now]
  exact h.tsk.expired (fun p g=>(h.sok.ok.tg p g).key) h.slot u o
 have t:=Z8 h.ok h.fits l d k g
 have v:VY c ep m r.nu {m with now:=m.now+n,TL:=e,QL:=a} r.nu:=.ticked m r.nu n b e a hn.1 f i o g
 refine⟨h.ok,h.fits,v.ok h.ok h.fits h.sok,⟨d.hc,d.now,d.gone,d.pub,h.tie.inv.act h.ok h.fits h.sok (by have:=h.len;omega) v⟩,t,fun q s=>h.slot q (u.sub q s),h.picks,h.epo,h.ghas,h.ng,h.np,h.full,ZM.of g⟩
end
theorem zbV(n:Int)(w:World)(h:n<0\/4<=n):Calls prog 113 #[I J n] w fun e w'=>e=.returned (.bool false)/\w'=w:=by
 by_cases b:n<0
 ·have a:decide (0<=n)=false:=by simp;omega
  clear h
  go_enter func113,ntmps113
  go_wp2_with fail
  go_ret
  exact⟨rfl,rfl⟩
 ·have c:0<=n:=by omega
  have d:¬n<4:=by omega
  clear h
  go_enter func113,ntmps113
  go_wp2_with fail
  go_ret
  exact⟨rfl,rfl⟩
theorem zhO{w:World}{x:Nat}(se tm val:Int)(a:se<0\/4<=se):
  Calls prog 59 #[.pointer (O ⟨x,0,none⟩),I J se,I J tm,I i32 val] w fun e w'=>e=.returned (I J 2)/\Below w.1.size w w':=by
 have b:=fun W=>ze (zbV se W a)
 clear a
 go_enter func59,ntmps59
 go_wp2_with(first|(go_at_call 113;refine(ud (b _)).mono ?_;rintro e f ⟨rfl,d⟩;have c:=d.symm;subst c)|fail)
 go_ret
 exact⟨rfl,U _ _⟩
theorem zfv{w:World}{i:Ids}{c:Cf}{ep:Int}{m:MS}(h:zy w i c ep m)(se tm val:Int)(a:0<=se/\se<4)(f:tm<0\/m.now<tm):
  Calls prog 59 #[.pointer (O ⟨i.x,0,none⟩),I J se,I J tm,I i32 val] w fun e w'=>e=.returned (I J 5)/\Below w.1.size w w':=by
 obtain⟨-,-,-,-,-,-,-,-,q,-,-⟩:=h.cells
 have p:=h.lt
 have d:=fun W=>ze (vM se W a)
 clear h a
 by_cases k:tm<0
 ·have g:decide (tm<0)=true:=by simpa using k
  clear f
  go_enter func59,ntmps59
  go_wp2_with(first|(go_at_call 113;refine(ud (d _)).mono ?_;rintro e l ⟨rfl,j⟩;have b:=j.symm;subst b)|fail)
  go_ret
  exact⟨rfl,U _ _⟩
 ·have g:decide (tm<0)=false:=by simpa using k
  have n:m.now<tm:=by omega
  have o:decide (m.now<tm)=true:=by simpa using n
  clear f
  go_enter func59,ntmps59
  go_wp2_with(first|(go_at_call 113;refine(ud (d _)).mono ?_;rintro e l ⟨rfl,j⟩;have b:=j.symm;subst b)|fail)
  go_ret
  exact⟨rfl,U _ _⟩
theorem zfu{w:World}{i:Ids}{c:Cf}{ep:Int}{m:MS}(h:zy w i c ep m)(C:c.ok)(se tm val:Int)(j:0<=se/\se<4)(q:0<=tm/\tm<=m.now)(p:tm<m.now-c.la)(t:m.now<=100000):
  Calls prog 59 #[.pointer (O ⟨i.x,0,none⟩),I J se,I J tm,I i32 val] w fun e w'=>e=.returned (I J 3)/\Below w.1.size w w':=by
 obtain⟨a,cap,s,r⟩:=h.ts
 obtain⟨N,P,Q,R,S,T,v,V,X,Y,-⟩:=h.cells
 rw[s]at v
 have L:=h.lt
 obtain⟨D,F⟩:=C.la
 have l:=fun W=>ze (Qz c a cap W)
 have k:=fun W=>ze (vM se W j)
 have y:decide (tm<0)=false:=by simp;omega
 have z:decide (m.now<tm)=false:=by simp;omega
 have A:decide (tm<m.now-c.la)=true:=by simpa using p
 obtain⟨G,H⟩:=q
 clear h r
 go_enter func59,ntmps59
 go_wp2_with(first|(go_at_call 113;refine(ud (k _)).mono ?_;rintro e M ⟨rfl,B⟩;have n:=B.symm;subst n))
 have g:Nonempty (zm w.1.size w):=zm.some _ _
 have f:=fun(u:zm w.1.size w) b o h=>u.cell b o h
 refine zh w.1.size (by kernel_rfl) (by kernel_rfl) ?_
 repeat(go_big_quiet_step (first
  |(go_at_call 114;exact Calls.later (K _) (ud (l _)))))
 refine wpQuiet_nil ?_
 rintro⟨Z,d⟩
 dsimp only
 clear f g
 go_wp2_with fail
 go_ret
 exact⟨rfl,d⟩
theorem zdl{w:World}{i:Ids}{c:Cf}{ep:Int}{m:MS}(h:zy w i c ep m)(R:c.ok)(t se we:Int)(A:t< -1\/c.n<=t\/se<0\/4<=se\/we<0\/100000<we):
  Calls prog 60 #[.pointer (O ⟨i.x,0,none⟩),I J t,I J se,I J we] w fun e w'=>e=.returned (.tuple #[.agg #[I J 0,I J 0,I i32 0,I i32 0],I J 2])/\Below w.1.size w w':=by
 obtain⟨a,cap,F,D⟩:=h.ts
 have X:=h.lt
 have p:Below w.1.size w (w.alloc (.cells #[I J 0,I J 0,I i32 0,I i32 0] 114)):=(U _ _).alloc (K _) _
 obtain⟨c0,c1,c2,c3,c4,c5,T,-,c8,c9,-⟩:=(h.later p).cells
 rw[F]at T
 have k:=ze p
 have f:=ze (zo w (.cells #[I J 0,I J 0,I i32 0,I i32 0] 114))
 have d:w.1.size<(w.alloc (.cells #[I J 0,I J 0,I i32 0,I i32 0] 114)).1.size:=by rw[zF];omega
 have Y:i.x<(w.alloc (.cells #[I J 0,I J 0,I i32 0,I i32 0] 114)).1.size:=by rw[zF];omega
 have u:=ze (zbZ c R a cap t (w.alloc (.cells #[I J 0,I J 0,I i32 0,I i32 0] 114)))
 have V:=R.n4
 clear p h D
 by_cases B:t< -1\/c.n<=t
 ·rw[show inB t (-1) ((c.n:Int)-1)=false from by rw[Jm];omega]at u
  clear B A
  go_enter func60,ntmps60
  go_wp2_with(first|(go_at_call 117;refine(ud u).mono ?_;rintro e s ⟨rfl,b⟩;obtain⟨H,L,M,N,-⟩:=zc (((b.block w.1.size d).trans (ud f)));have P:=fun j=>zD ((b.block w.1.size d).trans (ud f)) j;have r:w.1.size<s.1.size:=E d b.size;have g:=ze b;clear b)|fail)
  have o:=((ud g).block w.1.size d).trans (ud f)
  have q:=Qs o (I J 0) (I J 0) (I i32 0) (I i32 0)
  refine bodyPost_ret (v:=.tuple #[.agg #[I J 0,I J 0,I i32 0,I i32 0],I J 2]) (zj results60 _ _ w.1.size _ _ _ _ _ rfl rfl q underlying114 rfl (by kernel_rfl)) rfl ?_
  exact⟨rfl,(ud k).trans (((ud g).mono (ud k).size).trans (below4 (K _) _ _ _ _))⟩
 rw[show inB t (-1) ((c.n:Int)-1)=true from by rw[qq];omega]at u
 by_cases C:se<0\/4<=se
 ·have z:=fun W=>ze (zbV se W C)
  clear B C A
  go_enter func60,ntmps60
  go_wp2_with(first|(go_at_call 117;refine(ud u).mono ?_;rintro e s ⟨rfl,b⟩;obtain⟨H,L,M,N,-⟩:=zc (((b.block w.1.size d).trans (ud f)));have P:=fun j=>zD ((b.block w.1.size d).trans (ud f)) j;have r:w.1.size<s.1.size:=E d b.size;have g:=ze b;clear b)|(go_at_call 113;refine(ud (z _)).mono ?_;rintro e Q ⟨rfl,y⟩;have l:=y.symm;subst l)|fail)
  have o:=((ud g).block w.1.size d).trans (ud f)
  have q:=Qs o (I J 0) (I J 0) (I i32 0) (I i32 0)
  refine bodyPost_ret (v:=.tuple #[.agg #[I J 0,I J 0,I i32 0,I i32 0],I J 2]) (zj results60 _ _ w.1.size _ _ _ _ _ rfl rfl q underlying114 rfl (by kernel_rfl)) rfl ?_
  exact⟨rfl,(ud k).trans (((ud g).mono (ud k).size).trans (below4 (K _) _ _ _ _))⟩
 have z:=fun W=>ze (vM se W (by omega))
 by_cases S:we<0
 ·have G:decide (we<0)=true:=by simpa using S
  clear B C A
  go_enter func60,ntmps60
  go_wp2_with(first|(go_at_call 117;refine(ud u).mono ?_;rintro e s ⟨rfl,b⟩;obtain⟨H,L,M,N,-⟩:=zc (((b.block w.1.size d).trans (ud f)));have P:=fun j=>zD ((b.block w.1.size d).trans (ud f)) j;have r:w.1.size<s.1.size:=E d b.size;have g:=ze b;clear b)|(go_at_call 113;refine(ud (z _)).mono ?_;rintro e Q ⟨rfl,y⟩;have l:=y.symm;subst l)|fail)
  have o:=((ud g).block w.1.size d).trans (ud f)
  have q:=Qs o (I J 0) (I J 0) (I i32 0) (I i32 0)
  refine bodyPost_ret (v:=.tuple #[.agg #[I J 0,I J 0,I i32 0,I i32 0],I J 2]) (zj results60 _ _ w.1.size _ _ _ _ _ rfl rfl q underlying114 rfl (by kernel_rfl)) rfl ?_
  exact⟨rfl,(ud k).trans (((ud g).mono (ud k).size).trans (below4 (K _) _ _ _ _))⟩
 have G:decide (we<0)=false:=by simpa using S
 have Z:100000<we:=by omega
 have a0:decide (100000<we)=true:=by simpa using Z
 clear B C A
 go_enter func60,ntmps60
 go_wp2_with(first|(go_at_call 117;refine(ud u).mono ?_;rintro e s ⟨rfl,b⟩;obtain⟨H,L,M,N,-⟩:=zc (((b.block w.1.size d).trans (ud f)));have P:=fun j=>zD ((b.block w.1.size d).trans (ud f)) j;have r:w.1.size<s.1.size:=E d b.size;have g:=ze b;clear b)|(go_at_call 113;refine(ud (z _)).mono ?_;rintro e Q ⟨rfl,y⟩;have l:=y.symm;subst l)|fail)
 have o:=((ud g).block w.1.size d).trans (ud f)
 have q:=Qs o (I J 0) (I J 0) (I i32 0) (I i32 0)
 refine bodyPost_ret (v:=.tuple #[.agg #[I J 0,I J 0,I i32 0,I i32 0],I J 2]) (zj results60 _ _ w.1.size _ _ _ _ _ rfl rfl q underlying114 rfl (by kernel_rfl)) rfl ?_
 exact⟨rfl,(ud k).trans (((ud g).mono (ud k).size).trans (below4 (K _) _ _ _ _))⟩
theorem zdj{w:World}{i:Ids}{c:Cf}{ep:Int}{m:MS}(h:zy w i c ep m)(F:c.ok)(slot:Int)(t:slot<0\/c.s<=slot):
  Calls prog 16 #[.pointer (O ⟨i.x,0,none⟩),I J slot] w fun e w'=>e=.returned (.tuple #[zjB,I J 6])/\Below w.1.size w w':=by
 have f:Below w.1.size w (w.alloc (.cells #[I J 0,I J 0,I J 0,I J 0,I J 0,I J 0,I J 0,I J 0,I J 0,I J 0,I J 0] 51)):=(U _ _).alloc (K _) _
 have y:=zo w (.cells #[I J 0,I J 0,I J 0,I J 0,I J 0,I J 0,I J 0,I J 0,I J 0,I J 0,I J 0] 51)
 have z:=zF w (.cells #[I J 0,I J 0,I J 0,I J 0,I J 0,I J 0,I J 0,I J 0,I J 0,I J 0,I J 0] 51)
 have q:=h.later f
 obtain⟨a,cap,v,u⟩:=h.ts
 obtain⟨P,Q,R,S,T,V,D,-,X,-,C⟩:=q.cells
 rw[v]at D
 have H:=q.lt
 have o:=fun W=>ze (Jy c F a cap slot W)
 rw[show inB slot 0 (c.s-1)=false from by rw[Jm];omega]at o
 have n:=ze f
 have A:=ze y
 have B:=ze z
 clear h q f y z u t
 go_enter func16,ntmps16
 have r:w.1.size<(w.alloc (.cells #[I J 0,I J 0,I J 0,I J 0,I J 0,I J 0,I J 0,I J 0,I J 0,I J 0,I J 0] 51)).1.size:=by rw[ud B];omega
 go_wp2_with(first
   |(go_at_call 37;refine(ud (o _)).mono ?_;rintro e M ⟨rfl,d⟩;have l:=ze ((ud n).trans (d.mono (ud n).size));have b:=(d.block _ r).trans (ud A);obtain⟨Y,Z,z2,z3,z4,z5,z6,z7,z8,z9,N⟩:=z11 b;have zf:=fun j=>zD b j;have zl:=zd b;have p:=ze b;clear d b)|fail)
 have G:=kH (ud p) (I J 0) (I J 0) (I J 0) (I J 0) (I J 0) (I J 0) (I J 0) (I J 0) (I J 0) (I J 0) (I J 0)
 refine bodyPost_ret (zj results16 _ _ w.1.size _ _ _ _ _ rfl rfl G underlying51 rfl (by kernel_rfl)) rfl ?_
 have L:=qH (w:=M) (g:=w.1.size) (I J 0) (I J 0) (I J 0) (I J 0) (I J 0) (I J 0) (I J 0) (I J 0) (I J 0) (I J 0) (I J 0)
 exact⟨rfl,(ud l).trans (L.below (ud l).size (fun k e=>by omega))⟩
theorem zhN{w:World}{i:Ids}{c:Cf}{ep:Int}{m:MS}{r:RM}(h:zy w i c ep m)(f:xR c ep m r)(se tm val:Int)(g: -2147483648<=val/\val<=2147483647):
  Calls prog 59 #[.pointer (O ⟨i.x,0,none⟩),I J se,I J tm,I i32 val] w fun e w'=>e=.returned (I J (xM c m se tm val).2)/\zy w' i c ep (xM c m se tm val).1/\zk (zU i) w w':=by
 have d:=f.sok.ok
 have z:=f.ubound
 by_cases j:se<0\/4<=se
 ·rw[show xM c m se tm val=(m,2)from by unfold xM;rw[if_pos j]]
  exact(zhO se tm val j).mono fun e w' ⟨b,a⟩=>⟨b,h.later a,zk.of_below a⟩
 by_cases o:tm<0\/m.now<tm
 ·rw[show xM c m se tm val=(m,5)from by unfold xM;rw[if_neg j,if_pos o]]
  exact(zfv h se tm val (by omega) o).mono fun e w' ⟨b,a⟩=>⟨b,h.later a,zk.of_below a⟩
 by_cases q:tm<m.now-c.la
 ·rw[show xM c m se tm val=(m,3)from by unfold xM;rw[if_neg j,if_neg o,if_pos q]]
  exact(zfu h f.ok se tm val (by omega) (by omega) q d.now.2).mono fun e w' ⟨b,a⟩=>⟨b,h.later a,zk.of_below a⟩
 have l:∀k:Nat,k<c.n->zV m.Gl (qs c se tm k)=none:=fun k A=>xB.2 (by
  have:=kD f.ok d (x:=⟨se,tm,val⟩) (t:=(k:Int)) (by show m.now-c.la<=tm;omega) (by omega) (by omega)
  exact this)
 by_cases s:c.qu<xg m.L+(1+2*yh c m.L ⟨se,tm,val⟩ c.n)
 ·rw[show xM c m se tm val=(m,4)from by unfold xM;rw[if_neg j,if_neg o,if_neg q,if_pos s]]
  exact(zft h f.ok se tm val (by omega) (by omega) (by omega) d.now.2 g (by omega) d.seg.st l s).mono fun e w' ⟨b,a⟩=>⟨b,h.later a,zk.of_below a⟩
 ·rw[show xM c m se tm val=({m with L:=kJ c m.L ⟨se,tm,val⟩},0)from by unfold xM;rw[if_neg j,if_neg o,if_neg q,if_neg s]]
  refine(zjy h f.ok se tm val (by omega) (by omega) (by omega) d.now.2 g (by omega) d.seg.st l (by omega) (by have:=d.seg.len400 f.ok;omega) (fun p u v=>?_)).mono fun e w' ⟨b,a,y⟩=>⟨b,a,y.mono (fun k _ e=> .inr (.inl (.inr (.inr (.inl e)))))⟩
  obtain⟨B,C,D,F⟩:=d.seg.raw p u v
  have G:=d.seg.cnt f.ok p u v
  unfold Cl.small
  omega
end Go.Proofs.YtpbimdkclnekeaaGreat
