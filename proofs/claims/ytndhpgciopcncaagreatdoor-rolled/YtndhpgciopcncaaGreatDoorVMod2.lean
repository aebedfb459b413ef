import Derived.Test.YtndhpgciopcncaaGreatDoorVBrd2
set_option linter.unusedVariables false
namespace Go.Proofs.YtndhpgciopcncaaGreatDoor
open Go.RowKit Go.Maps Go.Shelf
def ye(v:SV):Int:=if v.st=1 then v.cl.cnt else 0
def Zh(L:LV):Int:=qq (L.map (fun p=>ye p.2))
section
variable {c:Cf} {L:LV}
theorem vH(x:Nm):∀(k:Nat) (L:LV) {p:Sg×SV},p∈yx c x k L->p∈L\/∃j:Nat,j<k/\p=(zG c (j:Int) x,⟨2,qc⟩)/\zG c (j:Int) x∉zt L
 |0,L,p,h=> .inl h
 |k+1,L,p,h=>by
  have d:p∈xN c x k (yx c x k L):=h
  unfold xN at d
  split at d
  ·rcases vH x k L d with a|⟨j,a,b⟩
   ·exact .inl a
   ·exact .inr ⟨j,by omega,b⟩
  ·rename_i hn
   rcases qh d with rfl|⟨d,_⟩
   ·refine .inr ⟨k,by omega,rfl,fun g=>hn ?_⟩
    clear h d hn
    have e:∀(k:Nat) (s:Sg),s∈zt L->s∈zt (yx c x k L):=fun k=>by
     induction k with
     |zero=>exact fun s h=>h
     |succ k f=>intro s h;show s∈zt (xN c x k _);unfold xN;split;exact f s h;exact xF.2 (.inl (f s h))
    exact e k _ g
   ·rcases vH x k L d with a|⟨j,a,b⟩
    ·exact .inl a
    ·exact .inr ⟨j,by omega,b⟩
theorem kQ(x:Nm):∀(k:Nat) (L:LV) {p:Sg×SV},p∈L->p∈yx c x k L
 |0,L,p,h=>h
 |k+1,L,p,h=>by
  have a:=kQ x k L h
  show p∈xN c x k (yx c x k L)
  unfold xN
  split
  ·exact a
  ·rename_i hn
   unfold ya;rw[if_neg hn];exact List.mem_append_left _ a
theorem jM(x:Nm):∀(k:Nat) (L:LV),(zt L).Nodup->(zt (yx c x k L)).Nodup
 |0,L,h=>h
 |k+1,L,h=>by
  show(zt (xN c x k (yx c x k L))).Nodup
  unfold xN
  split
  ·exact jM x k L h
  ·exact yT (jM x k L h)
theorem Zb(x:Nm):∀(k:Nat) (L:LV) (j:Nat),j<k->zG c (j:Int) x∈zt (yx c x k L)
 |k+1,L,j,h=>by
  show _∈zt (xN c x k (yx c x k L))
  unfold xN
  split
  ·rename_i hm
   by_cases e:j=k
   ·subst e;exact hm
   ·exact Zb x k L j (by omega)
  ·by_cases e:j=k
   ·subst e;exact xF.2 (.inr rfl)
   ·exact xF.2 (.inl (Zb x k L j (by omega)))
theorem Zs{now:Int}(d:c.ok){x:Nm}{t:Int}(a: -1<=t)(b:t<c.n)(f:now-c.la<=x.tm):¬c.clo now (zG c t x):=by
 obtain⟨e,_⟩:=d.wt a b
 have:x.tm<(x.tm/c.wt t+1)*c.wt t:=Int.lt_ediv_add_one_mul_self _ (by omega)
 unfold Cf.clo zG
 dsimp only
 omega
theorem zdW(d:c.ok){x:Nm}(h:0<=x.sr/\x.sr<4)(e:0<=x.tm/\x.tm<=100000){t:Int}(a: -1<=t)(b:t<c.n):inR c (zG c t x):=by
 obtain⟨i,_⟩:=d.wt a b
 have hn:=d.n4
 have f:0<=x.tm/c.wt t:=Int.ediv_nonneg e.1 (by omega)
 have g:x.tm/c.wt t<=x.tm:=Int.ediv_le_self _ e.1
 refine⟨⟨?_,?_,?_⟩,a,b,f,?_⟩
 ·show xg t;unfold xg;omega
 ·show xg x.sr;unfold xg;omega
 ·show xg (x.tm/c.wt t);unfold xg;omega
 ·show x.tm/c.wt t<=100000;omega
theorem zdV(f:c.ok)(g:c.fits){x:Nm}(j:0<=x.tm):(⟨(c.b:Int),x.sr,(xk c x).wa*c.wi/c.W c.b⟩:Sg)=zG c (c.b:Int) x:=by
 obtain⟨q,i,e⟩:=g.div0
 have h:=f.wi1
 have a:c.wt (c.b:Int)=c.W c.b:=by unfold Cf.wt zR;rw[if_neg (by omega)];simp
 have d:c.wt (-1)=c.wi:=by unfold Cf.wt zR;rw[if_pos rfl]
 unfold xk zG
 rw[a,d]
 dsimp only
 have:x.tm/c.wi*c.wi/c.W c.b=x.tm/c.W c.b:=by
  rw[e,Int.mul_comm c.wi q,Int.mul_ediv_mul_of_pos_left _ _ (by omega),Int.ediv_ediv_of_nonneg (by omega),Int.mul_comm c.wi q]
 rw[this]
end
section
variable {c:Cf} {ep:Int} {m:MS}
theorem MOk.rawAt(h:yq c m.now m.L m.Gl)(f:c.ok){x:Nm}{v:SV}(hv:yA m.L (xk c x)=some v):v.st=1/\1<=v.cl.cnt/\v.cl.cnt<=400/\ -(v.cl.cnt*2147483648)<=v.cl.sum/\v.cl.sum<=v.cl.cnt*2147483648:=by
 have e:=kz hv
 obtain⟨a,b,d⟩:=h.raw _ e rfl
 exact⟨a,b,h.cnt f _ e rfl,d⟩
theorem zep(h:yq c m.now m.L m.Gl)(i:c.ok)(x:Nm)(f:SV->Int)(a:∀d:Cl,f ⟨1,d⟩=d.cnt):qq ((qs c m.L x).map (fun p=>f p.2))=qq (m.L.map (fun p=>f p.2))+1:=by
 unfold qs
 cases b:yA m.L (xk c x)with
 |none=>rw[Z0 f (kh.1 b),a];simp[qp]
 |some v=>
  obtain⟨g,_⟩:=MOk.rawAt h i b
  rw[Ya h.nl (kz b) f,a]
  have:f v=v.cl.cnt:=by
   have e:v=⟨1,v.cl⟩:=by cases v;simp at g;subst g;rfl
   rw[e,a]
  rw[this];simp[qp];omega
theorem zeq(x:Nm)(f:SV->Int)(a:f ⟨2,qc⟩=0):∀(k:Nat) (L:LV),qq ((yx c x k L).map (fun p=>f p.2))=qq (L.map (fun p=>f p.2))
 |0,L=>rfl
 |k+1,L=>by
  show qq ((xN c x k (yx c x k L)).map (fun p=>f p.2))=_
  unfold xN
  split
  ·exact zeq x f a k L
  ·rename_i hn
   rw[Z0 f hn,zeq x f a k L,a];omega
theorem VJ(h:yq c m.now m.L m.Gl)(a:c.ok)(x:Nm):zm (kN c m.L x)=zm m.L+1+2*yk c m.L x c.n:=by
 unfold kN;rw[ziT]
 have:=zep h a x qD (fun b=>by simp[qD])
 unfold zm at*;omega
theorem zcX(h:yq c m.now m.L m.Gl)(a:c.ok)(x:Nm):Zh (kN c m.L x)=Zh m.L+1:=by
 unfold kN Zh
 rw[zeq x ye (by simp[ye]) c.n]
 exact zep h a x ye (fun b=>by simp[ye])
theorem MOk.added(h:MOk c ep m)(z:c.ok)(H:c.fits){x:Nm}(Q:0<=x.sr/\x.sr<4)(J:0<=x.tm/\x.tm<=m.now)(M:m.now-c.la<=x.tm)(hv: -2147483648<=x.val/\x.val<=2147483647)(R:zm m.L+1+2*yk c m.L x c.n<=c.qu):
  MOk c ep {m with L:=kN c m.L x}:=by
 have g:=h.seg
 have I:=h.now
 have O:=z.n1
 have l:=fun(t:Int) (i: -1<=t) (A:t<c.n)=>Zs z i A M
 have hin:=fun(t:Int) (i: -1<=t) (A:t<c.n)=>zdW z Q ⟨J.1,by omega⟩ i A (x:=x)
 have f:∀p,p∈kN c m.L x->(p∈m.L/\p.1≠xk c x)\/p=(xk c x,⟨1,qp x.val ((yA m.L (xk c x)).map (·.cl))⟩)\/∃j:Nat,j<c.n/\p=(zG c (j:Int) x,⟨2,qc⟩)/\zG c (j:Int) x∉zt m.L:=fun p a=>by
  rcases vH x c.n _ a with a|⟨j,i,A,B⟩
  ·rcases qh a with rfl|a
   ·exact .inr (.inl rfl)
   ·exact .inl a
  ·exact .inr (.inr ⟨j,i,A,fun N=>B (xF.2 (.inl N))⟩)
 have u:∀p,p∈m.L->p.1≠xk c x->p∈kN c m.L x:=fun p a o=>kQ x c.n _ (by
  unfold qs ya
  split
  ·exact List.mem_map.2 ⟨p,a,by rw[if_neg o]⟩
  ·exact List.mem_append_left _ a)
 have D:(zt (kN c m.L x)).Nodup:=jM x c.n _ (yT g.nl)
 have E:xk c x∈zt (kN c m.L x):=by
  have:(xk c x,(⟨1,qp x.val ((yA m.L (xk c x)).map (·.cl))⟩:SV))∈kN c m.L x:=kQ x c.n _ (by
   have q:xk c x∈zt (qs c m.L x):=xF.2 (.inr rfl)
   have:=xS q
   have e:stL (qs c m.L x) (xk c x)=⟨1,qp x.val ((yA m.L (xk c x)).map (·.cl))⟩:=by unfold qs;rw[zee g.nl,if_pos rfl]
   rw[e]at this;exact this)
  exact List.mem_map.2 ⟨_,this,rfl⟩
 have r:∀k,k∈zt m.L->k∈zt (kN c m.L x):=fun k q=>by
  by_cases e:k=xk c x
  ·rw[e];exact E
  ·obtain⟨p,a,rfl⟩:=List.mem_map.1 (show k∈m.L.map (·.1)from q)
   exact List.mem_map.2 ⟨p,u p a e,rfl⟩
 have G:∀k,k∈zt m.L->k≠xk c x->stL (kN c m.L x) k=stL m.L k:=fun k q o=>zjS D (u _ (xS q) o)
 have P:(xk c x).t= -1:=rfl
 refine⟨h.now,⟨fun p a=>?_,D,fun p a y=>?_,fun p a y=>?_,fun p a=>?_,g.ng,fun p a B=>?_,g.goc,fun p a y=>?_,?_⟩,fun p a=>?_,h.nt,h.leas,h.nq,h.jobs,h.num⟩
 ·rcases f p a with⟨a,_⟩|rfl|⟨j,C,rfl,_⟩
  ·exact g.inr p a
  ·exact hin (-1) (by omega) (by omega)
  ·exact hin j (by omega) (by omega)
 ·rcases f p a with⟨a,_⟩|rfl|⟨j,C,rfl,_⟩
  ·exact g.raw p a y
  ·refine⟨rfl,?_⟩
   dsimp only
   cases K:yA m.L (xk c x)with
   |none=>simp[qp];omega
   |some v=>obtain⟨_,b,_,d,e⟩:=MOk.rawAt g z K;simp only[Option.map_some,qp];omega
  ·have:((j:Int))= -1:=y
   omega
 ·rcases f p a with⟨a,_⟩|rfl|⟨j,C,rfl,_⟩
  ·exact g.tier p a y
  ·have:0<=(xk c x).t:=y
   omega
  ·exact .inl rfl
 ·rcases f p a with⟨a,_⟩|rfl|⟨j,C,rfl,_⟩
  ·exact g.disj p a
  ·exact fun q=>l (-1) (by omega) (by omega) (g.goc _ q)
  ·exact fun q=>l j (by omega) (by omega) (g.goc _ q)
 ·rcases f p a with⟨a,_⟩|rfl|⟨j,C,rfl,_⟩
  ·exact g.pubc p a B
  ·simp at B
  ·simp at B
 ·rcases f p a with⟨a,_⟩|rfl|⟨j,C,rfl,_⟩
  ·rcases g.above p a y with F|F
   ·exact .inl (r _ F)
   ·exact .inr F
  ·left
   show(⟨(c.b:Int),x.sr,(xk c x).wa*c.wi/c.W c.b⟩:Sg)∈_
   rw[zdV z H J.1]
   exact Zb x c.n _ c.b H.bn
  ·have:((j:Int))= -1:=y
   omega
 ·show zm (kN c m.L x)<=c.qu
  rw[VJ g z];exact R
 ·have i:=h.td p a
  have o:p.2.s≠xk c x:=fun e=>by
   have:=i.clo
   rw[e]at this
   exact l (-1) (by omega) (by omega) this
  have w:=G _ i.mem o
  exact⟨i.key,r _ i.mem,i.clo,fun e=>by show(stL (kN c m.L x) p.2.s).st=2;rw[w];exact i.roll e,fun e=>by show(stL (kN c m.L x) p.2.s).st≠2;rw[w];exact i.recl e,i.se,i.ti⟩
theorem MOk.not_gone(h:MOk c ep m)(d:c.ok){x:Nm}(f:m.now-c.la<=x.tm){t:Int}(a: -1<=t)(b:t<c.n):zY m.Gl (zG c t x)=none:=
 qa.2 (fun e=>Zs d a b f (h.seg.goc _ e))
theorem MOk.small(h:MOk c ep m)(g:c.ok):∀p∈m.L,p.1.t= -1->0<=p.2.cl.cnt/\p.2.cl.cnt<=1000000000000/\ -1000000000000000000<=p.2.cl.sum/\p.2.cl.sum<=1000000000000000000:=fun p e f=>by
 obtain⟨_,a,b,d⟩:=h.seg.raw p e f
 have:=h.seg.cnt g p e f
 omega
end
section
variable {c:Cf} {now:Int} {L:LV} {Gl:List (Sg×Unit)}
theorem Yf:∀(L:LV),(∀p∈L,p.2.st=1\/p.2.st=2\/p.2.st=3)->zm L=Zh L+2*(ze L 2+ze L 3)
 |[],_=>by simp[zm,Zh,ze,qq]
 |p::L,h=>by
  have b:=Yf L (fun q a=>h q (by simp[a]))
  unfold zm Zh ze at*
  simp only[List.map_cons,qq]
  have:=h p (by simp)
  unfold qD ye QN
  rcases this with e|e|e<;>simp[e]<;>unfold qD ye QN at b<;>omega
theorem zcY:∀(L:LV),(∀p∈L,p.2.st=1->1<=p.2.cl.cnt)->ze L 1<=Zh L
 |[],_=>by simp[Zh,ze,qq]
 |p::L,h=>by
  have b:=zcY L (fun q a=>h q (by simp[a]))
  unfold Zh ze at*
  simp only[List.map_cons,qq]
  have:=h p (by simp)
  unfold ye QN at*
  by_cases e:p.2.st=1
  ·have:=this e;simp only[if_pos e];omega
  ·simp only[if_neg e];omega
theorem yq.sts(h:yq c now L Gl):∀p∈L,p.2.st=1\/p.2.st=2\/p.2.st=3:=fun p a=>by
 have b:=h.inr p a
 by_cases d:p.1.t= -1
 ·exact .inl (h.raw p a d).1
 ·exact .inr (h.tier p a (by have:=b.2.1;omega))
theorem yq.held1(h:yq c now L Gl):∀p∈L,p.2.st=1->1<=p.2.cl.cnt:=fun p a e=>by
 have b:=h.inr p a
 by_cases d:p.1.t= -1
 ·exact(h.raw p a d).2.1
 ·have:=h.tier p a (by have:=b.2.1;omega);omega
end
def vu(QL:List (Tok×Lse))(t:Tok):Int:=match zY QL t with|some g=>g.til|none=>0
def vW(ep:Int)(k:Nat):List Tok:=(List.range k).map (fun j:Nat=>(⟨ep,(j:Int)+1⟩:Tok))
def qV(ep:Int)(QL:List (Tok×Lse))(k:Nat):List Int:=(List.range k).map (fun j:Nat=>vu QL ⟨ep,(j:Int)+1⟩)
theorem zF(ep:Int)(k:Nat):(vW ep k).length=k:=by simp[vW]
theorem zV(ep:Int)(QL:List (Tok×Lse))(k:Nat):(qV ep QL k).length=k:=by simp[qV]
theorem ko(ep:Int)(k j:Nat)(h:j<k):(vW ep k)[j]?=some ⟨ep,(j:Int)+1⟩:=by simp[vW,h]
theorem kM(ep:Int)(QL:List (Tok×Lse))(k j:Nat)(h:j<k):(qV ep QL k)[j]?=some (vu QL ⟨ep,(j:Int)+1⟩):=by simp[qV,h]
theorem zez(ep:Int)(k:Nat):vW ep (k+1)=vW ep k++[⟨ep,(k:Int)+1⟩]:=by simp[vW,List.range_succ]
theorem zeD(ep:Int)(QL:List (Tok×Lse))(k:Nat):qV ep QL (k+1)=qV ep QL k++[vu QL ⟨ep,(k:Int)+1⟩]:=by simp[qV,List.range_succ]
theorem zbP{ep:Int}{Q Q':List (Tok×Lse)}{k:Nat}(h:∀j:Nat,j<k->vu Q ⟨ep,(j:Int)+1⟩=vu Q' ⟨ep,(j:Int)+1⟩):qV ep Q k=qV ep Q' k:=by
 unfold qV
 exact List.map_congr_left (fun j a=>h j (by simpa using a))
def zjg(s:Sg):Nat:=((s.t+1)*400004+s.sr*100001+s.wa).toNat
def JC(s:Sg):Prop:=0<=s.sr/\s.sr<4
theorem ziA{c:Cf}(a:c.ok){s:Sg}(h:inR c s)(b:JC s):zjg s<2000020:=by
 obtain⟨_,d,e,f,g⟩:=h
 obtain⟨i,j⟩:=b
 have:=a.n4
 unfold zjg;omega
theorem zgt{c:Cf}{s a:Sg}(h:inR c s)(j:JC s)(i:inR c a)(b:JC a)(e:zjg s=zjg a):s=a:=by
 obtain⟨_,x,y,z,A⟩:=h
 obtain⟨B,C⟩:=j
 obtain⟨_,n,o,p,q⟩:=i
 obtain⟨u,w⟩:=b
 obtain⟨t,r,v⟩:=s
 obtain⟨l,k,m⟩:=a
 unfold zjg at e
 dsimp only at*
 have d:t=l:=by omega
 have f:r=k:=by omega
 have g:v=m:=by omega
 rw[d,f,g]
structure SOk(c:Cf)(ep:Int)(m:MS)(nn:Nat):Prop where
 ok:MOk c ep m
 gin:∀k∈zE m.Gl,inR c k/\JC k
 lin:∀k∈zt m.L,JC k
 held:Zh m.L<=nn
section
variable {c:Cf} {ep:Int} {m:MS} {nn:Nat}
theorem SOk.gl(h:SOk c ep m nn)(n:c.ok):m.Gl.length<=2000020:=by
 have k:=Zl ((zE m.Gl).map zjg) (List.range 2000020) ?_ ?_
 ·simpa[zE]using k
 ·have hn:=h.ok.seg.ng
  have d:=h.gin
  generalize zE m.Gl=l at*
  rw[List.nodup_iff_pairwise_ne,List.pairwise_map]
  refine(List.nodup_iff_pairwise_ne.1 hn).imp_of_mem ?_
  intro a b g i f e
  exact f (zgt (d a g).1 (d a g).2 (d b i).1 (d b i).2 e)
 ·intro x o
  obtain⟨s,j,rfl⟩:=List.mem_map.1 o
  exact List.mem_range.2 (ziA n (h.gin s j).1 (h.gin s j).2)
theorem MOk.unt_pos(h:MOk c ep m){t:Tok}{g:Lse}(a:zY m.QL t=some g):vu m.QL t=g.til/\0<g.til:=by
 have b:=(h.leas _ (zT a)).til
 have d:=h.now
 refine⟨by unfold vu;rw[a],by dsimp only at b;omega⟩
theorem MOk.unt_none{t:Tok}(a:zY m.QL t=none):vu m.QL t=0:=by unfold vu;rw[a]
theorem ziR{QL:List (Tok×Lse)}(hn:(zE QL).Nodup)(t k:Tok):vu (xq QL t) k=if k=t then 0 else vu QL k:=by
 unfold vu;rw[Ys hn]
 by_cases e:k=t
 ·rw[if_pos e,if_pos e]
 ·rw[if_neg e,if_neg e]
theorem zeE{QL:List (Tok×Lse)}(hn:(zE QL).Nodup)(t k:Tok)(g:Lse):vu (qr QL t g) k=if k=t then g.til else vu QL k:=by
 unfold vu;rw[vj hn]
 by_cases e:k=t
 ·rw[if_pos e,if_pos e]
 ·rw[if_neg e,if_neg e]
theorem Kc{QL:List (Tok×Lse)}(hn:(zE QL).Nodup)(k j:Nat):qV ep (xq QL ⟨ep,(j:Int)+1⟩) k=(qV ep QL k).set j 0:=by
 apply List.ext_getElem?
 intro i
 rw[List.getElem?_set]
 by_cases a:i<k
 ·rw[kM _ _ _ _ a,ziR hn,kM _ _ _ _ a,zV]
  by_cases e:j=i
  ·subst e;simp[a]
  ·rw[if_neg (by intro h;injection h with _ h;omega),if_neg e]
 ·have b:(qV ep (xq QL ⟨ep,(j:Int)+1⟩) k)[i]?=none:=List.getElem?_eq_none (by rw[zV];omega)
  have c:(qV ep QL k)[i]?=none:=List.getElem?_eq_none (by rw[zV];omega)
  rw[b,c]
  split
  ·rename_i e;subst e;rw[if_neg (by rw[zV];exact a)]
  ·rfl
theorem VI{QL:List (Tok×Lse)}(k j:Nat)(h:vu QL ⟨ep,(j:Int)+1⟩=0):(qV ep QL k).set j 0=qV ep QL k:=by
 apply List.ext_getElem?
 intro i
 rw[List.getElem?_set]
 by_cases a:i<k
 ·rw[kM _ _ _ _ a,zV]
  by_cases e:j=i
  ·subst e;simp[a,h]
  ·rw[if_neg e]
 ·have b:(qV ep QL k)[i]?=none:=List.getElem?_eq_none (by rw[zV];omega)
  rw[b]
  split
  ·rename_i e;subst e;rw[if_neg (by rw[zV];exact a)]
  ·rfl
theorem zgI{QL:List (Tok×Lse)}(hn:(zE QL).Nodup)(k:Nat)(g:Lse):qV ep (qr QL ⟨ep,(k:Int)+1⟩ g) (k+1)=qV ep QL k++[g.til]:=by
 rw[zeD,zeE hn,if_pos rfl]
 congr 1
 exact zbP (fun j a=>by rw[zeE hn,if_neg (by intro h;injection h with _ h;omega)])
def zbT(n:Int)(u:Int):Int:=if u<=n then 0 else u
theorem SOk.tick(x:c.ok)(y:c.fits)(h:SOk c ep m nn){n:Int}(hn:1<=n)(i:m.now+n<=100000){e d:List (Jk×Tsk)}{a:List (Tok×Lse)}(r:VR (m.now+n) m.TL m.QL e a)(u:∀p∈a,m.now+n<p.2.til)
  (z:yd c {m with now:=m.now+n,TL:=e,QL:=a} d):
  SOk c ep {m with now:=m.now+n,TL:=d,QL:=a} nn/\∀k,qV ep a k=(qV ep m.QL k).map (zbT (m.now+n)):=by
 have v:=h.ok.exps (n':=m.now+n) ⟨by omega,i⟩ r u
 obtain⟨w,_,_⟩:=MOk.post x y v z
 refine⟨⟨w,h.gin,h.lin,h.held⟩,fun k=>?_⟩
 obtain⟨_,_,i3,_,i5,B,_,_⟩:=J5 (ep:=ep) (c:=c) (L:=m.L) (num:=m.num) (show m.now<=m.now+n by omega) h.ok.td h.ok.nt h.ok.leas h.ok.nq h.ok.jobs r
 have A:∀t,vu a t=zbT (m.now+n) (vu m.QL t):=fun t=>by
  have o:=h.ok.now
  unfold zbT
  cases f:zY m.QL t with
  |none=>
   have:zY a t=none:=by
    cases b:zY a t with
    |none=>rfl
    |some g=>exact absurd (qC h.ok.nq (i5 _ (zT b))) (by rw[f];simp)
   rw[MOk.unt_none f,show vu a t=0 from by unfold vu;rw[this]];split<;>rfl
  |some g=>
   rw[(h.ok.unt_pos f).1]
   by_cases s:g.til<=m.now+n
   ·rw[if_pos s]
    have:zY a t=none:=by
     cases b:zY a t with
     |none=>rfl
     |some C=>
      have l:=qC h.ok.nq (i5 _ (zT b))
      rw[f]at l;injection l with l
      have q:=u _ (zT b)
      rw[<-l]at q
      dsimp only at q;omega
    unfold vu;rw[this]
   ·rw[if_neg s]
    have:=qC i3 (B _ (zT f) (by dsimp only;omega))
    unfold vu;rw[this]
 unfold qV
 rw[List.map_map]
 exact List.map_congr_left (fun j _=>A _)
theorem SOk.take(b:c.ok)(h:SOk c ep m nn){p:Jk×Tsk}(e:p∈m.TL)(f:p.2.rest<=m.now)(d:kJ m.QL p.2.key=false)(slot:Int):
  SOk c ep {m with num:=m.num+1,QL:=qr m.QL ⟨ep,m.num+1⟩ ⟨p.2.kd,p.2.s,slot,m.now+c.le⟩} nn:=by
 have a:=(h.ok.picked b (k:=p.1) (x:=p.2) (qC h.ok.nt e) f d slot).1
 exact⟨a,h.gin,h.lin,h.held⟩
theorem SOk.fail(h:SOk c ep m nn){t:Tok}{g:Lse}{x:Tsk}(a:zY m.QL t=some g)(b:zY m.TL g.job=some x):
  SOk c ep {m with TL:=qr m.TL g.job (x.failed m.now),QL:=xq m.QL t} nn:=⟨h.ok.failed a b,h.gin,h.lin,h.held⟩
theorem SOk.job(h:SOk c ep m nn)(p:c.ok){t:Tok}{g:Lse}(j:zY m.QL t=some g):∃x,zY m.TL g.job=some x/\g.job.wf/\inR c x.s/\(x.rl=true->∃k:Nat,x.s.t=k)/\0<=x.ti/\x.ti<=1000000:=by
 obtain⟨x,f,q⟩:=(h.ok.leas _ (zT j)).job
 have d:=zT f
 have a:=h.ok.td _ d
 have hin:=h.ok.mem_inR a.mem
 refine⟨x,f,h.ok.wfk _ d,hin,fun e=>?_,?_⟩
 ·have b:=a.roll e
  have l:=xS a.mem
  refine⟨x.s.t.toNat,?_⟩
  have n: -1<=x.s.t:=hin.2.1
  have o:x.s.t≠ -1:=fun i=>by
   have:=(h.ok.seg.raw _ l i).1
   dsimp only at this b;omega
  omega
 ·have b:=a.ti
  have:=h.ok.now
  dsimp only at b;omega
theorem KI(h:yq c m.now m.L m.Gl){s:Sg}(b:s∈zt m.L):0<=ye (stL m.L s):=by
 have a:=xS b
 unfold ye
 split
 ·rename_i h1;have:=h.held1 _ a h1;dsimp only at this;omega
 ·exact Int.le_refl _
theorem SOk.roll(q:c.ok)(r:c.fits)(h:SOk c ep m nn){t:Tok}{g:Lse}{s:Sg}{se ti rest:Int}(u:zY m.QL t=some g)(w:zY m.TL g.job=some ⟨true,s,se,ti,rest⟩)(a:Cl){b:List (Jk×Tsk)}
  (v:yd c {m with L:=ya m.L s ⟨3,a⟩,Gl:=m.Gl,TL:=xq m.TL g.job,QL:=xq m.QL t} b):
  SOk c ep {m with L:=ya m.L s ⟨3,a⟩,Gl:=m.Gl,TL:=b,QL:=xq m.QL t} nn/\ze (ya m.L s ⟨3,a⟩) 2=ze m.L 2-1:=by
 obtain⟨j,f,l,n⟩:=h.ok.rolled u w rfl a
 dsimp only at j f l n
 have o:=(MOk.post q r j v).1
 refine⟨⟨o,h.gin,fun k i=>?_,?_⟩,?_⟩
 ·rcases xF.1 i with i|rfl
  ·exact h.lin k i
  ·exact h.lin _ n
 ·have:=f ye
  have x:=h.held
  have d:ye (stL m.L s)=0:=by unfold ye;rw[if_neg (by omega)]
  have e:ye ⟨3,a⟩=0:=by simp[ye]
  rw[d,e]at this
  unfold Zh at*
  show qq ((ya m.L s ⟨3,a⟩).map (fun p=>ye p.2))<=_
  omega
 ·have:=f (QN 2)
  have d:QN 2 (stL m.L s)=1:=by unfold QN;rw[if_pos l]
  have e:QN 2 ⟨3,a⟩=0:=by simp[QN]
  rw[d,e]at this
  unfold ze
  omega
theorem SOk.reclaim(o:c.ok)(q:c.fits)(h:SOk c ep m nn){t:Tok}{g:Lse}{s:Sg}{se ti rest:Int}(r:zY m.QL t=some g)(u:zY m.TL g.job=some ⟨false,s,se,ti,rest⟩){a:List (Jk×Tsk)}
  (e:yd c {m with L:=xq m.L s,Gl:=qr m.Gl s (),TL:=xq m.TL g.job,QL:=xq m.QL t} a):
  SOk c ep {m with L:=xq m.L s,Gl:=qr m.Gl s (),TL:=a,QL:=xq m.QL t} nn/\(qr m.Gl s ()).length=m.Gl.length+1:=by
 obtain⟨f,i,l,d,j⟩:=h.ok.reclaimed r u rfl
 dsimp only at f i l d j
 have n:=(MOk.post o q f e).1
 refine⟨⟨n,fun k b=>?_,fun k b=>?_,?_⟩,j⟩
 ·rcases xG.1 b with b|rfl
  ·exact h.gin k b
  ·exact⟨h.ok.mem_inR d,h.lin _ d⟩
 ·obtain⟨p,e,rfl⟩:=List.mem_map.1 (show k∈(xq m.L s).map (·.1)from b)
  exact h.lin _ (List.mem_map.2 ⟨p,(xr.1 e).1,rfl⟩)
 ·have:=i ye
  have v:=h.held
  have w:=KI h.ok.seg d
  unfold Zh at*
  show qq ((xq m.L s).map (fun p=>ye p.2))<=_
  omega
theorem zeU{x:Nm}(b:0<=x.sr/\x.sr<4){L:LV}(h:∀k∈zt L,JC k):∀k∈zt (kN c L x),JC k:=fun k d=>by
 obtain⟨p,a,rfl⟩:=List.mem_map.1 (show k∈(kN c L x).map (·.1)from d)
 rcases vH x c.n _ a with a|⟨j,e,rfl,f⟩
 ·rcases qh a with rfl|⟨a,_⟩
  ·exact b
  ·exact h _ (List.mem_map.2 ⟨p,a,rfl⟩)
 ·exact b
theorem SOk.ingest(a:c.ok)(d:c.fits)(h:SOk c ep m nn){x:Nm}(b:0<=x.sr/\x.sr<4)(f:0<=x.tm/\x.tm<=m.now)(e:m.now-c.la<=x.tm)(hv: -2147483648<=x.val/\x.val<=2147483647)(j:zm m.L+(1+2*yk c m.L x c.n)<=c.qu):
  SOk c ep {m with L:=kN c m.L x} (nn+1)/\zm (kN c m.L x)=zm m.L+1+2*yk c m.L x c.n:=by
 refine⟨⟨h.ok.added a d b f e hv (by omega),h.gin,zeU b h.lin,?_⟩,VJ h.ok.seg a x⟩
 have g:=zcX h.ok.seg a x
 have i:=h.held
 show Zh (kN c m.L x)<=((nn+1:Nat):Int)
 omega
theorem SOk.new(a:c.ok):SOk c ep ⟨0,[],[],0,[],[]⟩ 0:=by
 have b:=a.qu
 refine⟨⟨by dsimp only;omega,⟨by simp,by simp[zt],by simp,by simp,by simp,by simp[zE],by simp,by simp[zE],by simp,?_⟩,by simp,by simp[zE],by simp,by simp[zE],by simp,by dsimp only;omega⟩,by simp[zE],by simp[zt],?_⟩
 ·show zm []<=c.qu
  simp[zm,qq];omega
 ·simp[Zh,qq]
end
end Go.Proofs.YtndhpgciopcncaaGreatDoor
