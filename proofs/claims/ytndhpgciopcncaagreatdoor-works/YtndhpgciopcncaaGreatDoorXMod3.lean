import Derived.Test.YtndhpgciopcncaaGreatDoorXPck1
open Option renaming some → J
set_option linter.unusedVariables false
namespace Go.Proofs.YtndhpgciopcncaaGreatDoor
open Go.RowKit Go.Maps Go.Shelf
variable {c:Cf} {rest si tc:Int} {TL':List (Jk×Tsk)} {g:Lse} {s:Sg} {t:Tok} {x:Tsk}
def zky(QL:List (Tok×Lse))(t:Tok):Int:=match zU QL t with|some g=>g.til|none=>0
def zqy(ep:Int)(QL:List (Tok×Lse))(k:Nat):List Int:=(List.range k).map (fun j:Nat=>zky QL ⟨ep,(j:Int)+1⟩)
def zos(s:Sg):Nat:=((s.t+1)*400004+s.se*100001+s.we).toNat
def zci(s:Sg):Prop:=0<=s.se/\s.se<4
theorem zjS(a:c.ok)(h:inR c s)(b:zci s):zos s<2000020:=by
 obtain⟨_,d,e,f,g⟩:=h;obtain⟨i,j⟩:=b;have:=a.n4;unfold zos;omega
theorem zeX{a:Sg}(h:inR c s)(j:zci s)(i:inR c a)(b:zci a)(e:zos s=zos a):s=a:=by
 obtain⟨_,x,y,z,A⟩:=h;obtain⟨B,C⟩:=j;obtain⟨_,n,o,p,q⟩:=i;obtain⟨u,w⟩:=b;obtain⟨t,r,v⟩:=s;obtain⟨l,k,m⟩:=a;unfold zos at e;dsimp only at*;have d:t=l:=by omega
 have f:r=k:=by omega
 have g:v=m:=by omega
 rw[d,f,g]
structure SOk(c:Cf)(ep:Int)(m:MS)(nn:Nat):Prop where
 ok:MOk c ep m
 gin:∀k∈zx m.Gl,inR c k/\zci k
 lin:∀k∈zw m.L,zci k
 held:QM m.L<=nn
section
variable {c:Cf} {ep:Int} {m:MS} {nn:Nat}
theorem SOk.gl(h:SOk c ep m nn)(n:c.ok):m.Gl.length<=2000020:=by
 have k:=Qk ((zx m.Gl).map zos) (List.range 2000020) ?_ ?_
 ·simpa[zx]using k
 ·have hn:=h.ok.seg.ng;have d:=h.gin;generalize zx m.Gl=l at*;rw[List.nodup_iff_pairwise_ne,List.pairwise_map];refine(List.nodup_iff_pairwise_ne.1 hn).imp_of_mem ?_;intro a b g i f e;exact f (zeX (d a g).1 (d a g).2 (d b i).1 (d b i).2 e)
 ·intro x o;obtain⟨s,j,rfl⟩:=List.mem_map.1 o;exact List.mem_range.2 (zjS n (h.gin s j).1 (h.gin s j).2)
theorem MOk.unt_pos(h:MOk c ep m)(a:zU m.QL t=J g):zky m.QL t=g.til/\0<g.til:=by
 have b:=(h.leas _ (zP a)).til;have d:=h.now;refine⟨by unfold zky;rw[a],by dsimp only at b;omega⟩
theorem MOk.unt_none(a:zU m.QL t=none):zky m.QL t=0:=by unfold zky;rw[a]
def zqh(n:Int)(u:Int):Int:=if u<=n then 0 else u
theorem SOk.tick(u:c.ok)(v:c.fits)(h:SOk c ep m nn){n:Int}(hn:1<=n)(f:m.now+n<=100000){d:List (Jk×Tsk)}{a:List (Tok×Lse)}(l:zcC (m.now+n) m.TL m.QL d a)(q:∀p∈a,m.now+n<p.2.til)(w:qN c {m with now:=m.now+n,TL:=d,QL:=a} TL'):
  SOk c ep {m with now:=m.now+n,TL:=TL',QL:=a} nn/\∀k,zqy ep a k=(zqy ep m.QL k).map (zqh (m.now+n)):=by
 have r:=h.ok.exps (n':=m.now+n) ⟨by omega,f⟩ l q;obtain⟨s,_,_⟩:=MOk.post u v r w;refine⟨⟨s,h.gin,h.lin,h.held⟩,fun k=>?_⟩;obtain⟨_,_,i3,_,i5,y,_,_⟩:=zhV (ep:=ep) (c:=c) (L:=m.L) (num:=m.num) (show m.now<=m.now+n by omega) h.ok.tg h.ok.nt h.ok.leas h.ok.nq h.ok.jobs l;have x:∀t,zky a t=zqh (m.now+n) (zky m.QL t):=fun t=>by
  have i:=h.ok.now;unfold zqh;cases e:zU m.QL t with
  |none=>
   have:zU a t=none:=by
    cases b:zU a t with
    |none=>rfl
    |some g=>exact absurd (xF h.ok.nq (i5 _ (zP b))) (by rw[e];simp)
   rw[MOk.unt_none e,show zky a t=0 from by unfold zky;rw[this]];split<;>rfl
  |some g=>
   rw[(h.ok.unt_pos e).1];by_cases o:g.til<=m.now+n
   ·rw[if_pos o];have:zU a t=none:=by
     cases b:zU a t with
     |none=>rfl
     |some z=>
      have a1:=xF h.ok.nq (i5 _ (zP b));rw[e]at a1;injection a1 with a1;have a2:=q _ (zP b);rw[<-a1]at a2;dsimp only at a2;omega
    unfold zky;rw[this]
   ·rw[if_neg o];have:=xF i3 (y _ (zP e) (by dsimp only;omega));unfold zky;rw[this]
 unfold zqy;rw[List.map_map];exact List.map_congr_left (fun j _=>x _)
theorem SOk.take(b:c.ok)(h:SOk c ep m nn){p:Jk×Tsk}(e:p∈m.TL)(f:p.2.rest<=m.now)(d:vg m.QL p.2.key=false)(slot:Int):
  SOk c ep {m with num:=m.num+1,QL:=qM m.QL ⟨ep,m.num+1⟩ ⟨p.2.kd,p.2.s,slot,m.now+c.le⟩} nn:=by
 have a:=(h.ok.picked b (k:=p.1) (x:=p.2) (xF h.ok.nt e) f d slot).1;exact⟨a,h.gin,h.lin,h.held⟩
theorem SOk.fail(h:SOk c ep m nn)(a:zU m.QL t=J g)(b:zU m.TL g.job=J x):
  SOk c ep {m with TL:=qM m.TL g.job (x.failed m.now),QL:=xB m.QL t} nn:=⟨h.ok.failed a b,h.gin,h.lin,h.held⟩
theorem SOk.job(h:SOk c ep m nn)(q:c.ok)(l:zU m.QL t=J g):∃x,zU m.TL g.job=J x/\g.job.wf/\inR c x.s/\(x.rl=true->∃k:Nat,x.s.t=k)/\0<=x.tc/\x.tc<=1000000:=by
 obtain⟨x,i,r⟩:=(h.ok.leas _ (zP l)).job;have f:=zP i;have b:=h.ok.tg _ f;have a:=h.ok.mem_inR b.mem;refine⟨x,i,h.ok.wfk _ f,a,fun e=>?_,?_⟩
 ·have d:=b.roll e;have n:=xl b.mem;refine⟨x.s.t.toNat,?_⟩;have o: -1<=x.s.t:=a.2.1;have p:x.s.t≠ -1:=fun j=>by
   have:=(h.ok.seg.raw _ n j).1;dsimp only at this d;omega
  omega
 ·have d:=b.tc;have:=h.ok.now;dsimp only at d;omega
theorem zbr(h:kL c m.now m.L m.Gl)(b:s∈zw m.L):0<=kr (stL m.L s):=by
 have a:=xl b;unfold kr;split
 ·rename_i h1;have:=h.held1 _ a h1;dsimp only at this;omega
 ·exact Int.le_refl _
theorem SOk.roll(n:c.ok)(o:c.fits)(h:SOk c ep m nn)(q:zU m.QL t=J g)(u:zU m.TL g.job=J ⟨true,s,si,tc,rest⟩)(cl:Cl)(r:qN c {m with L:=km m.L s ⟨3,cl⟩,Gl:=m.Gl,TL:=xB m.TL g.job,QL:=xB m.QL t} TL'):
  SOk c ep {m with L:=km m.L s ⟨3,cl⟩,Gl:=m.Gl,TL:=TL',QL:=xB m.QL t} nn/\xW (km m.L s ⟨3,cl⟩) 2=xW m.L 2-1:=by
 obtain⟨f,d,i,j⟩:=h.ok.rolled q u rfl cl;dsimp only at f d i j;have l:=(MOk.post n o f r).1;refine⟨⟨l,h.gin,fun k e=>?_,?_⟩,?_⟩
 ·rcases xU.1 e with e|rfl
  ·exact h.lin k e
  ·exact h.lin _ j
 ·have:=d kr;have v:=h.held;have a:kr (stL m.L s)=0:=by unfold kr;rw[if_neg (by omega)]
  have b:kr ⟨3,cl⟩=0:=by simp[kr]
  rw[a,b]at this;unfold QM at*;show qr ((km m.L s ⟨3,cl⟩).map (fun p=>kr p.2))<=_;omega
 ·have:=d (Vx 2);have a:Vx 2 (stL m.L s)=1:=by unfold Vx;rw[if_pos i]
  have b:Vx 2 ⟨3,cl⟩=0:=by simp[Vx]
  rw[a,b]at this;unfold xW;omega
theorem SOk.reclaim(n:c.ok)(o:c.fits)(h:SOk c ep m nn)(q:zU m.QL t=J g)(r:zU m.TL g.job=J ⟨false,s,si,tc,rest⟩)(d:qN c {m with L:=xB m.L s,Gl:=qM m.Gl s (),TL:=xB m.TL g.job,QL:=xB m.QL t} TL'):
  SOk c ep {m with L:=xB m.L s,Gl:=qM m.Gl s (),TL:=TL',QL:=xB m.QL t} nn/\(qM m.Gl s ()).length=m.Gl.length+1:=by
 obtain⟨e,f,j,b,i⟩:=h.ok.reclaimed q r rfl;dsimp only at e f j b i;have l:=(MOk.post n o e d).1;refine⟨⟨l,fun k a=>?_,fun k a=>?_,?_⟩,i⟩
 ·rcases xz.1 a with a|rfl
  ·exact h.gin k a
  ·exact⟨h.ok.mem_inR b,h.lin _ b⟩
 ·obtain⟨p,d,rfl⟩:=List.mem_map.1 (show k∈(xB m.L s).map (·.1)from a);exact h.lin _ (List.mem_map.2 ⟨p,(xg.1 d).1,rfl⟩)
 ·have:=f kr;have u:=h.held;have v:=zbr h.ok.seg b;unfold QM at*;show qr ((xB m.L s).map (fun p=>kr p.2))<=_;omega
theorem zkO{x:Nm}(b:0<=x.se/\x.se<4){L:LV}(h:∀k∈zw L,zci k):∀k∈zw (kY c L x),zci k:=fun k d=>by
 obtain⟨p,a,rfl⟩:=List.mem_map.1 (show k∈(kY c L x).map (·.1)from d);rcases Zo x c.n _ a with a|⟨j,e,rfl,f⟩
 ·rcases qG a with rfl|⟨a,_⟩
  ·exact b
  ·exact h _ (List.mem_map.2 ⟨p,a,rfl⟩)
 ·exact b
theorem SOk.ingest(a:c.ok)(d:c.fits)(h:SOk c ep m nn){x:Nm}(b:0<=x.se/\x.se<4)(f:0<=x.tm/\x.tm<=m.now)(e:m.now-c.la<=x.tm)(hv: -2147483648<=x.val/\x.val<=2147483647)(j:xh m.L+(1+2*yv c m.L x c.n)<=c.qu):
  SOk c ep {m with L:=kY c m.L x} (nn+1)/\xh (kY c m.L x)=xh m.L+1+2*yv c m.L x c.n:=by
 refine⟨⟨h.ok.added a d b f e hv (by omega),h.gin,zkO b h.lin,?_⟩,zcw h.ok.seg a x⟩;have g:=zif h.ok.seg a x;have i:=h.held;show QM (kY c m.L x)<=((nn+1:Nat):Int);omega
theorem SOk.new(a:c.ok):SOk c ep ⟨0,[],[],0,[],[]⟩ 0:=by
 have b:=a.qu;refine⟨⟨by dsimp only;omega,⟨by simp,by simp[zw],by simp,by simp,by simp,by simp[zx],by simp,by simp[zx],by simp,?_⟩,by simp,by simp[zx],by simp,by simp[zx],by simp,by dsimp only;omega⟩,by simp[zx],by simp[zw],?_⟩
 ·show xh []<=c.qu;simp[xh,qr];omega
 ·simp[QM,qr]
end
inductive VJ (c:Cf) (ep:Int):MS->List Nm->MS->List Nm->Prop
 |same (m:MS) (ns:List Nm):VJ c ep m ns m ns
 |added (m:MS) (ns:List Nm) (x:Nm) (hs:0<=x.se/\x.se<4) (hx:0<=x.tm/\x.tm<=m.now) (hl:m.now-c.la<=x.tm) (hv: -2147483648<=x.val/\x.val<=2147483647) (hu:xh m.L+(1+2*yv c m.L x c.n)<=c.qu):VJ c ep m ns {m with L:=kY c m.L x} (ns++[x])
 |ticked (m:MS) (ns:List Nm) (n:Int) (TL1 TL':List (Jk×Tsk)) (QL1:List (Tok×Lse)) (hn:1<=n) (hnow:m.now+n<=100000) (he:zcC (m.now+n) m.TL m.QL TL1 QL1) (hq:∀p∈QL1,m.now+n<p.2.til) (hp:qN c {m with now:=m.now+n,TL:=TL1,QL:=QL1} TL'):VJ c ep m ns {m with now:=m.now+n,TL:=TL',QL:=QL1} ns
 |taken (m:MS) (ns:List Nm) (p:Jk×Tsk) (slot:Int) (hp:p∈m.TL) (hf:kO m.QL m.now p.2=true):VJ c ep m ns {m with num:=m.num+1,QL:=qM m.QL ⟨ep,m.num+1⟩ ⟨p.2.kd,p.2.s,slot,m.now+c.le⟩} ns
 |failed (m:MS) (ns:List Nm) (t:Tok) (g:Lse) (x:Tsk) (hg:zU m.QL t=J g) (hx:zU m.TL g.job=J x):VJ c ep m ns {m with TL:=qM m.TL g.job (x.failed m.now),QL:=xB m.QL t} ns
 |rolled (m:MS) (ns:List Nm) (t:Tok) (g:Lse) (s:Sg) (si tc rest:Int) (k:Nat) (TL':List (Jk×Tsk)) (hg:zU m.QL t=J g) (hx:zU m.TL g.job=J ⟨true,s,si,tc,rest⟩) (hk:s.t=k) (hp:qN c {m with L:=km m.L s ⟨3,xP (xM c m.L s.se s.we k)⟩,Gl:=m.Gl,TL:=xB m.TL g.job,QL:=xB m.QL t} TL'):VJ c ep m ns {m with L:=km m.L s ⟨3,xP (xM c m.L s.se s.we k)⟩,Gl:=m.Gl,TL:=TL',QL:=xB m.QL t} ns
 |reclaimed (m:MS) (ns:List Nm) (t:Tok) (g:Lse) (s:Sg) (si tc rest:Int) (TL':List (Jk×Tsk)) (hg:zU m.QL t=J g) (hx:zU m.TL g.job=J ⟨false,s,si,tc,rest⟩) (hp:qN c {m with L:=xB m.L s,Gl:=qM m.Gl s (),TL:=xB m.TL g.job,QL:=xB m.QL t} TL'):VJ c ep m ns {m with L:=xB m.L s,Gl:=qM m.Gl s (),TL:=TL',QL:=xB m.QL t} ns
theorem VY{QL:List (Tok×Lse)}{now:Int}(h:kO QL now x=true):x.rest<=now/\vg QL x.key=false:=by
 unfold kO at h;simp only[Bool.and_eq_true,Bool.not_eq_true',decide_eq_true_eq]at h;exact h
theorem VJ.ok{ep:Int}{m m':MS}{ns ns':List Nm}(d:c.ok)(j:c.fits)(h:VJ c ep m ns m' ns')(b:SOk c ep m ns.length):SOk c ep m' ns'.length:=by
 cases h with
 |same=>exact b
 |added x l o v w y=>have:=(b.ingest d j l o v w y).1;simpa using this
 |ticked n u TL' r hn f z A a=>exact(b.tick d j hn f z A a).1
 |taken p slot a q=>obtain⟨l,o⟩:=VY q;exact b.take d a l o slot
 |failed t g x e i=>exact b.fail e i
 |rolled t g s si tc rest k TL' e i B a=>exact(b.roll d j e i _ a).1
 |reclaimed t g s si tc rest TL' e i a=>exact(b.reclaim d j e i a).1
