import Derived.Test.YtndhpgciopcncaaGreatDoorPMlz6
import Derived.Deep.RegionHeld3
import Derived.Lib.AtoiErrMem
open Go.Value renaming int → J
open Go.IntKind renaming i32 → K
open Option renaming some → E
set_option linter.unusedVariables false
set_option maxRecDepth 40000
set_option maxHeartbeats 4000000
open Go.Proofs.Tryz
namespace Go.Proofs.YtndhpgciopcncaaGreatDoor
open Go.RowKit Go.Maps Go.Shelf
theorem zaT:(prog.info? 87).map (fun i=>(i.zero,i.size,i.bytes))=E (E (.agg #[I 0,I 0,J K 0]),3,24):=by kernel_rfl
theorem vD(a:World)(o:Obj):a.1.size<=(a.alloc o).drew.1.size:=by show a.1.size<=(a.alloc o).1.size;rw[zN];omega
theorem Vm{X V:World}(h:Below X.drew.1.size X.drew V):Below X.1.size X V:=⟨h.os,h.tape,h.output,h.size,h.block⟩
def zgw(n:Int):Value:=.string ⟨(Lib.itoa n).toArray⟩
structure Ya(w:World)(p g:Nat)(ws:List Int)(k:Nat):Prop where
 head:∃ad:Option Addr,w.1[p]?=E (.cells #[.slice ad (ws.length-k) (ws.length-k),.bool false] 278 (0,0))/\(k<ws.length->ad=E (U g k))
 row:w.1[g]?=E (.cells (ws.map zgw).toArray 9 (0,0))
theorem Ya.word{w:World}{p g:Nat}{a:List Int}{k:Nat}(h:Ya w p g a k){j:Nat}{n:Int}(hn:a[j]?=E n):w.cell? (U g j)=E (zgw n):=by
 rw[xH h.row];simp[hn]
theorem ziK{n:Int}(hn:xg n)(w:World):Calls prog 243 #[zgw n,I 10,I 64] w (Rz w (.tuple #[I n,.nilIface])):=by
 have b:=Lib.itoa_length_le n hn.1 hn.2
 refine(Any.strconv_ParseInt_10_at64_ok Tryz.layPI ⟨(Lib.itoa n).toArray⟩ (by simp[ByteArray.size];omega) n (by simpa using zlv hn.1 hn.2) w).mono ?_
 rintro e w' ⟨a,rfl|⟨t,rfl⟩⟩
 ·exact⟨a,Below.refl _ _⟩
 ·exact⟨a,Lib.bytesWorld_below _ _ _⟩
theorem zW{w:World}{p g:Nat}{l:List Int}{k:Nat}(h:Ya w p g l k){n:Int}(hn:l[k]?=E n)(L:xg n)(a b:Int)(T:a<=n)(X:n<=b):
  Calls prog 200 #[(O p),I a,I b] w fun e w'=>e=.returned (I n)/\Ya w' p g l (k+1)/\zh (fun q=>q=p) w w':=by
 have M:k<l.length:=(List.getElem?_eq_some_iff.1 hn).1
 have Z:=h.word hn
 obtain⟨ad,c,s⟩:=h.head
 obtain rfl:=s M
 obtain⟨C,-⟩:=zc c
 have z:=zd c
 have S:=zd h.row
 obtain⟨N,F⟩:∃N,l.length-k=N:=⟨_,rfl⟩
 rw[F]at C
 have G:1<=N:=by omega
 have B:=fun W=>ze (ziK L W)
 have H:=ze h
 have r:=ze c
 clear h c s
 go_enter func200,ntmps200
 go_wp2_with fail
 refine(ud (B _)).mono ?_
 rintro e V ⟨rfl,t⟩
 have v0:=(t.cell (p:=(U p 0)) z).trans C
 have u:=(t.block _ z).trans (ud r)
 have vf:=fun j=>zv u j
 obtain⟨-,v1,-⟩:=zc u
 have P:=Nat.lt_of_lt_of_le z t.size
 have D:=ze t
 have A:=ze u
 have Q:decide (n<a)=false:=by simp;omega
 have R:decide (b<n)=false:=by simp;omega
 clear t u B
 go_wp2_with fail
 all_goals go_ret
 all_goals
  have m:∀v,zh (fun q=>q=p) w (V.setCell (U p 0) v):=fun v=>(zh.of_below (f:=fun q=>q=p) (ud D)).trans (zh.setCell (f:=fun q=>q=p) (zh.refl _ _) (p:=(U p 0)) (fun _=>rfl) v) (fun _ _ e=>e)
  have y:g≠p:=fun e=>by
   have o:=(ud H).row
   rw[e,ud r]at o
   injection o with o;injection o with _ o;exact absurd o (by decide)
  have d:∀v,(V.setCell (U p 0) v).1[g]?=E (.cells (l.map zgw).toArray 9 (0,0)):=fun v=>(m v).heap (ud H).row y
  first
   |(have x:l.length-(k+1)=0:=by omega
     exact⟨rfl,⟨⟨_,by rw[x];exact xy (i:=0) (ud A) _,fun Y=>by omega⟩,d _⟩,m _⟩)
   |(have x:l.length-(k+1)=N-1:=by omega
     exact⟨rfl,⟨⟨_,by rw[x];exact xy (i:=0) (ud A) _,fun _=>rfl⟩,d _⟩,m _⟩)
theorem zeQ(c:Cf)(s:Sg)(nu:List Nm)(g:∀x∈nu,x.ok)(p:nu.length<=1000000000):IsC (fun x=>zF c s.t x=s) nu (qi c s nu):=by
 have h:∀k,k<=nu.length->IsC (fun x=>zF c s.t x=s) (nu.take k) (qi c s (nu.take k)):=by
  intro k
  induction k with
  |zero=>intro _;simp only[List.take_zero];exact IsC.zero (fun x f=>by cases f)
  |succ k d=>
   intro n
   have a:k<nu.length:=n
   have d:=d (Nat.le_of_lt a)
   have e:nu[k]?=E nu[k]:=List.getElem?_eq_getElem a
   rw[zcg c s nu k _ e,List.take_succ_eq_append_getElem a]
   unfold ym
   by_cases b:zF c s.t nu[k]=s
   ·rw[if_pos b]
    have j:=d.add (x:=nu[k]) b
    have m:=zav (c:=c) (s:=s) (nu:=nu.take k) (fun x f=>g x (List.mem_of_mem_take f))
    have i:zmW (qi c s (nu.take k)) nu[k].val=zeG (qi c s (nu.take k)) nu[k].val:=by
     unfold zmW zeG
     have l:=g _ (List.getElem_mem a)
     unfold Nm.ok at l
     have o:(nu.take k).length<=1000000000:=by rw[List.length_take];omega
     rw[show wrap64 ((qi c s (nu.take k)).sum+nu[k].val)=(qi c s (nu.take k)).sum+nu[k].val by unfold wrap64;omega]
    rw[<-i];exact j
   ·rw[if_neg b];exact d.skip b
 have:=h nu.length (Nat.le_refl _)
 simpa using this
theorem Yo{P Q R:Nm->Prop}[DecidablePred P][DecidablePred Q][DecidablePred R]:∀{ns:List Nm},(∀x∈ns,P x->Q x\/R x)->qW P ns<=qW Q ns+qW R ns
 |[],_=>by simp[qW]
 |x::ns,h=>by
  have c:=Yo (ns:=ns) (fun y b=>h y (by simp[b]))
  have a:=h x (by simp)
  simp only[qW]
  by_cases p:P x
  ·rcases a p with q|q
   ·rw[if_pos p,if_pos q];split<;>omega
   ·rw[if_pos p,if_pos q];split<;>omega
  ·rw[if_neg p];repeat' split
   all_goals omega
theorem J7{P:Nm->Prop}[DecidablePred P]:∀{ns:List Nm},(∀x∈ns,P x)->qW P ns=ns.length
 |[],_=>rfl
 |x::ns,h=>by
  have b:=J7 (P:=P) (ns:=ns) (fun y a=>h y (by simp[a]))
  simp only[qW,List.length_cons]
  rw[if_pos (h x (by simp)),b];omega
theorem zhP{ns:List Nm}(h:∀T:Nat,qW (fun x=>x.tm=(T:Int)) ns<=400)(a:∀x∈ns,0<=x.tm):∀N:Nat,qW (fun x=>x.tm<(N:Int)) ns<=400*N
 |0=>by
  rw[qq.2 (fun x c e=>by have:=a x c;omega)];omega
 |N+1=>by
  have g:=zhP h a N
  have d:=h N
  have f:qW (fun x=>x.tm<((N+1:Nat):Int)) ns<=qW (fun x=>x.tm<(N:Int)) ns+qW (fun x=>x.tm=(N:Int)) ns:=Yo (fun x _ e=>by
   by_cases b:x.tm=(N:Int)
   ·exact .inr b
   ·left;omega)
  omega
theorem zeo{c:Cf}(m:c.ok){l:List Sg}(hn:l.Nodup)(h:∀k∈l,inR c k/\QB k):l.length<=2000020:=by
 have j:=jE (l.map zon) (List.range 2000020) ?_ ?_
 ·simpa using j
 ·rw[List.nodup_iff_pairwise_ne,List.pairwise_map]
  refine(List.nodup_iff_pairwise_ne.1 hn).imp_of_mem ?_
  intro a b f g d e
  exact d (zeq (h a f).1 (h a f).2 (h b g).1 (h b g).2 e)
 ·intro x n
  obtain⟨s,i,rfl⟩:=List.mem_map.1 n
  exact List.mem_range.2 (zjn m (h s i).1 (h s i).2)
structure yh(c:Cf)(ep:Int)(m:MS)(r:RM):Prop where
 ok:c.ok
 fits:c.fits
 sok:SOk c ep m r.nu.length
 tie:zdv c m r
 tsk:xB m.TL m.QL r.td
 slot:∀q∈m.QL,0<=q.2.slot
 picks:r.picks=m.num
 epo:r.epoch=ep
 ghas:∀s∈zj m.Gl,∃x∈r.nu,zF c s.t x=s
 ng:r.gone.Nodup
 np:r.pub.Nodup
 full:∀T:Nat,qW (fun x=>x.tm=(T:Int)) r.nu<=400
 comp:X8 c m
section
variable {c:Cf} {ep:Int} {m:MS} {r:RM}
theorem yh.nu(h:yh c ep m r):∀x∈r.nu,x.ok:=fun x a=>by
 have b:=h.tie.inv.tm x a
 have d:=h.sok.ok.now
 unfold Nm.ok;omega
theorem yh.len(h:yh c ep m r):r.nu.length<=100000000:=by
 have b:=zhP h.full (fun x a=>(h.nu x a).2.2.1) 100001
 rw[J7 (fun x a=>by have d:=h.nu x a;unfold Nm.ok at d;omega)]at b
 omega
theorem xB.len{TL:List (Jk×Tsk)}{QL:List (Tok×Lse)}{l:List Tk}(h:xB TL QL l):l.length=TL.length:=by
 obtain⟨b,a,-,rfl⟩:=h
 rw[List.length_map,a.length_eq,List.length_map]
theorem yh.inGl(h:yh c ep m r){s:Sg}:s∈r.gone↔s∈zj m.Gl:=by
 have:=h.tie.gone s
 unfold Qt at this;simpa using this
theorem yh.inPub(h:yh c ep m r){s:Sg}:s∈r.pub↔Pub m.L s\/(0<=s.t/\s∈zj m.Gl):=by
 have:=h.tie.pub s
 unfold Qt at this;simpa using this
theorem yh.segs(h:yh c ep m r)(s:Sg):s∈xb r.c r.nu↔s∈zn m.L\/s∈zj m.Gl:=by
 constructor
 ·intro b;exact(h.tie.there b).2.2
 ·rintro(b|b)
  ·have a:=h.sok.ok.mem_inR b
   exact h.tie.seg ⟨a.2.1,a.2.2.1⟩ b
  ·have a:=(h.sok.gin s b).1
   obtain⟨x,d,e⟩:=h.ghas s b
   rw[h.tie.hc,jj]
   exact⟨a.2.1,a.2.2.1,x,d,e.symm⟩
theorem yh.perm(h:yh c ep m r):(xb r.c r.nu).Perm (zn m.L++zj m.Gl):=by
 refine(List.perm_ext_iff_of_nodup (QT _ _) ?_).2 (fun s=>by rw[h.segs,List.mem_append])
 rw[List.nodup_append]
 refine⟨h.sok.ok.seg.nl,h.sok.ok.seg.ng,fun a d b f e=>?_⟩
 subst e
 exact h.sok.ok.seg.disj _ (zU d) f
theorem yh.sum(h:yh c ep m r)(f:Sg->Int)(g:SV->Int)(e:Int)(d:∀p∈m.L,f p.1=g p.2)(i:∀s∈zj m.Gl,f s=e):qw ((xb r.c r.nu).map f)=qw (m.L.map (fun p=>g p.2))+e*m.Gl.length:=by
 rw[vt (h.perm.map f),List.map_append,KE]
 congr 1
 ·unfold zn
  rw[List.map_map]
  exact congrArg qw (List.map_congr_left (fun p j=>d p j))
 ·have:∀l:List Sg,(∀s∈l,f s=e)->qw (l.map f)=e*l.length:=by
   intro l
   induction l with
   |nil=>intro _;simp[qw]
   |cons a l n=>
    intro b
    rw[List.map_cons,qw,n (fun s k=>b s (by simp[k])),b a (by simp),List.length_cons]
    push_cast;rw[Int.mul_add];omega
  rw[this _ i]
  unfold zj;rw[List.length_map]
theorem yh.raw(h:yh c ep m r){p:Sg×SV}(e:p∈m.L)(a:p.2.st≠2):qi r.c p.1 r.nu=p.2.cl:=by
 have b:=zeQ r.c p.1 r.nu h.nu (by have:=h.len;omega)
 have d:=h.tie.inv.cell p e a
 rw[h.tie.hc]at b ⊢
 exact b.one d
theorem yh.used(h:yh c ep m r):r.used=zJ m.L:=by
 unfold RM.used zmM
 rw[VX (zmt r.c r.nu r.gone),h.sum _ qV 0 (fun p a=>?_) (fun s i=>?_)]
 ·unfold zJ;omega
 ·have d:¬p.1∈r.gone:=fun e=>h.sok.ok.seg.disj p a (h.inGl.1 e)
  unfold zmt qV
  rw[if_neg d]
  by_cases f:p.1.t= -1
  ·have g:=(h.sok.ok.seg.raw p a f).1
   rw[if_pos f,if_pos g,h.raw a (by omega)]
  ·have b:=h.sok.ok.seg.inr p a
   have g:=h.sok.ok.seg.tier p a (by have:=b.2.1;omega)
   rw[if_neg f,if_neg (by omega)]
 ·unfold zmt
  rw[if_pos (h.inGl.2 i)]
theorem yh.tight(h:yh c ep m r):r.tight=yn (zJ m.L) c.qu:=by
 unfold RM.tight yn
 rw[h.used,h.tie.hc]
theorem yh.query(h:yh c ep m r){t sr wn:Int}(j:¬(t< -1\/r.c.n<=t\/sr<0\/4<=sr\/wn<0\/100000<wn)):r.query t sr wn=qS c m.now m.Gl m.L t sr wn:=by
 have g:r.c.end ⟨t,sr,wn⟩=(wn+1)*c.wh t:=by rw[h.tie.hc];rfl
 have o:r.c.la=c.la:=by rw[h.tie.hc]
 by_cases f:r.now-r.c.la<r.c.end ⟨t,sr,wn⟩
 ·rw[zfM j f]
  unfold qS
  rw[g,o,h.tie.now]at f
  rw[if_pos f];rfl
 ·have p:=f
  rw[g,o,h.tie.now]at p
  have w:=zaA (c:=r.c) (nu:=r.nu) (s:=⟨t,sr,wn⟩) (by show-1<=t;omega) (by show t<r.c.n;omega)
  unfold qS
  rw[if_neg p]
  by_cases q:(⟨t,sr,wn⟩:Sg)∈xb r.c r.nu
  ·have d:¬(qi r.c ⟨t,sr,wn⟩ r.nu).cnt=0:=fun e=>w.1 e q
   by_cases k:(⟨t,sr,wn⟩:Sg)∈zj m.Gl
   ·rw[zfL j f d (h.inGl.2 k)]
    unfold vI;rw[zmb k];rfl
   ·have y:=((h.segs _).1 q).resolve_right k
    have i:¬(⟨t,sr,wn⟩:Sg)∈r.gone:=fun e=>k (h.inGl.1 e)
    have a:=zU y
    rw[Yz k]
    have u:(⟨t,sr,wn⟩:Sg)∈r.pub↔(stL m.L ⟨t,sr,wn⟩).st=3:=by
     rw[h.inPub]
     constructor
     ·rintro(⟨v,hv,e⟩|⟨-,e⟩)
      ·rw[jD h.sok.ok.seg.nl a hv];exact e
      ·exact absurd e k
     ·intro e;exact .inl ⟨_,a,e⟩
    by_cases z:t= -1
    ·have b:=(h.sok.ok.seg.raw _ a z).1
     dsimp only at b
     have l:=h.raw a (by dsimp only;omega)
     dsimp only at l
     rw[zee j f d i (by omega),l]
     unfold vI;rw[b];rfl
    ·rcases h.sok.ok.seg.tier _ a (by show 0<=t;omega)with b|b
     ·dsimp only at b
      rw[zfN j f d i ⟨by omega,fun e=>by have:=u.1 e;omega⟩]
      unfold vI;rw[b];rfl
     ·dsimp only at b
      have l:=h.raw a (by dsimp only;omega)
      dsimp only at l
      rw[zee j f d i (fun e=>e.2 (u.2 b)),l]
      unfold vI;rw[b];rfl
  ·rw[zcR j f (w.2 q)]
   have b:(⟨t,sr,wn⟩:Sg)∉zj m.Gl:=fun e=>q ((h.segs _).2 (.inr e))
   have x:(⟨t,sr,wn⟩:Sg)∉zn m.L:=fun e=>q ((h.segs _).2 (.inl e))
   rw[Yz b]
   have:stL m.L ⟨t,sr,wn⟩=⟨0,qt⟩:=by unfold stL;rw[qR.2 x];rfl
   rw[this];rfl
end
def ye(c:Cf)(m:MS)(sr tm val:Int):MS×Int:=
 if sr<0\/4<=sr then(m,2)
 else if tm<0\/m.now<tm then(m,5)
 else if tm<m.now-c.la then(m,3)
 else if c.qu<zJ m.L+(1+2*qO c m.L ⟨sr,tm,val⟩ c.n)then(m,4)
 else({m with L:=yu c m.L ⟨sr,tm,val⟩},0)
theorem Vt{now:Int}:∀(a:List Sg) {T:List (Jk×Tsk)},(∀s∈a,(⟨1,s⟩:Jk)∈zj T)->a.foldl (qJ now) T=T
 |[],T,_=>rfl
 |y::a,T,h=>by
  have e:qJ now T y=T:=by
   unfold qJ
   cases b:zD T ⟨1,y⟩with
   |some x=>rfl
   |none=>exact absurd (h y (by simp)) (xr.1 b)
  rw[List.foldl_cons,e];exact Vt a (fun s c=>h s (by simp[c]))
theorem Vs{now:Int}:∀(a:List Sg) {T:List (Jk×Tsk)},(∀s∈a,(⟨2,s⟩:Jk)∈zj T)->a.foldl (ya now) T=T
 |[],T,_=>rfl
 |y::a,T,h=>by
  have e:ya now T y=T:=by
   unfold ya
   cases b:zD T ⟨2,y⟩with
   |some x=>rfl
   |none=>exact absurd (h y (by simp)) (xr.1 b)
  rw[List.foldl_cons,e];exact Vs a (fun s c=>h s (by simp[c]))
section
variable {c:Cf} {ep:Int} {m:MS} {r:RM}
theorem X8.posted(h:X8 c m):xA c m m.TL:=by
 obtain⟨b,f,d,e⟩:=h
 refine⟨⟨b,(zn m.L).filter (fun s=>yR c b m.L m.now s),(zn m.L).filter (fun s=>yQ c m.L m.now s),f,fun s=>List.mem_filter,fun s=>List.mem_filter,?_⟩⟩
 rw[Vt _ (fun s a=>d s (List.mem_filter.1 a).1 (List.mem_filter.1 a).2),Vs _ (fun s a=>e s (List.mem_filter.1 a).1 (List.mem_filter.1 a).2)]
theorem zaR(l:List Sg):zj (l.map (fun s=>(s,())))=l:=by
 unfold zj
 rw[List.map_map]
 simp[Function.comp_def]
theorem X8.added(l:c.ok)(T:c.fits){x:Nm}(C:MOk c ep m)(q:MOk c ep {m with L:=yu c m.L x})(h:X8 c m)(H:m.now-c.la<=x.tm):X8 c {m with L:=yu c m.L x}:=by
 obtain⟨M,R,O,P⟩:=h
 have U:=l.n1
 have r:(zn (yu c m.L x)).Nodup:=q.seg.nl
 have f:∀s,s∈zn (yu c m.L x)->c.clo m.now s->s∈zn m.L/\stL (yu c m.L x) s=stL m.L s:=fun s n a=>by
  have z:=zU n
  rcases XC z with e|⟨e,-⟩|⟨j,hj,e,-⟩
  ·exfalso
   injection e with A N
   refine jH l (t:= -1) (x:=x) (by omega) (by omega) H ?_
   rw[show zF c (-1) x=s from A.symm];exact a
  ·exact⟨Ze e,jD C.seg.nl e (zU (Ze e))⟩
  ·exfalso
   injection e with A N
   refine jH l (t:=(j:Int)) (x:=x) (by omega) (by omega) H ?_
   rw[<-A];exact a
 have I:∀k,k∈zn m.L->(stL m.L k).st=2->k∈zn (yu c m.L x)/\(stL (yu c m.L x) k).st=2:=fun k g b=>by
  have z:=zU g
  have F:k≠xm c x:=fun e=>by
   have:=(C.seg.raw _ z (by rw[e];rfl)).1
   dsimp only at this;omega
  have i:=J3 (c:=c) (x:=x) z F
  have p:=Ze i
  refine⟨p,?_⟩
  rw[jD r (zU p) i];exact b
 refine⟨((((zn (yu c m.L x)).filter (fun k=>decide ((stL (yu c m.L x) k).st=2))).flatMap (yI c)).map (fun s=>(s,()))),fun y=>?_,fun s n d=>?_,fun s n d=>?_⟩
 ·rw[zaR,List.mem_flatMap]
  constructor
  ·rintro⟨k,g,v⟩
   obtain⟨i,B⟩:=List.mem_filter.1 g
   exact⟨k,i,of_decide_eq_true B,v⟩
  ·rintro⟨k,i,B,v⟩
   exact⟨k,List.mem_filter.2 ⟨i,decide_eq_true B⟩,v⟩
 ·obtain⟨a,b⟩:=zej d
  obtain⟨g,w⟩:=f s n a
  refine O s g ?_
  have D:s∉zj M:=fun S=>by
   obtain⟨k,V,W,X⟩:=(R s).1 S
   obtain⟨Y,Z⟩:=I k V W
   unfold yR at d
   cases G:zD ((((zn (yu c m.L x)).filter (fun k=>decide ((stL (yu c m.L x) k).st=2))).flatMap (yI c)).map (fun s=>(s,()))) s with
   |some u=>rw[G]at d;simp at d
   |none=>
    refine xr.1 G ?_
    rw[zaR]
    exact List.mem_flatMap.2 ⟨k,List.mem_filter.2 ⟨Y,decide_eq_true Z⟩,X⟩
  unfold yR
  dsimp only at w b
  rw[w]at b
  rw[xr.2 D,b]
  unfold Cf.clo at a
  simpa using a
 ·obtain⟨a,b⟩:=zeg l T q.seg n d
  obtain⟨g,w⟩:=f s n a
  refine P s g ?_
  unfold yQ at d ⊢
  simp only[Bool.and_eq_true]at d ⊢
  rw[w]at d
  refine⟨d.1,?_⟩
  have o:=C.mem_inR g
  rw[XP l o]
  have Q:=(XP l o).1 d.2
  exact fun y v e=>Q y v (I y (JW e) e).2
theorem zdA{α:Type}[DecidableEq α](f:Nm->α)(ns:List Nm):∀ks:List α,qW (fun x=>f x∈ks) ns<=qw (ks.map (fun k=>qW (fun x=>f x=k) ns))
 |[]=>by
  rw[qq.2 (fun x _ h=>by cases h)];simp[qw]
 |k::ks=>by
  have a:=zdA f ns ks
  rw[List.map_cons,qw]
  refine Int.le_trans (Yo (Q:=fun x=>f x=k) (R:=fun x=>f x∈ks) (fun x _ h=>by simpa using h)) ?_
  omega
theorem zew:∀(l:List Int),(∀x∈l,0<=x)->0<=qw l
 |[],_=>by simp[qw]
 |a::l,h=>by
  have c:=h a (by simp)
  have d:=zew l (fun x b=>h x (by simp[b]))
  simp only[qw];omega
theorem zkP(d:c.ok)(a:MOk c ep m){ns:List Nm}(l:ZI c m ns){T:Int}(y:m.now-c.la<=T):qW (fun x=>x.tm=T) ns<=400:=by
 have q:=d.n1
 have o:qW (fun x=>x.tm=T) ns<=qW (fun x=>xm c x∈zn m.L) ns+qW (fun _=>False) ns:=Yo (fun x i e=> .inl (by
  rcases l.keys x i (-1) (by omega) (by omega)with h|h
  ·exact h
  ·exact absurd h (jF d a (x:=x) (by omega) (by omega) (by omega))))
 rw[show qW (fun _=>False) ns=0 from qq.2 (fun _ _ h=>h)]at o
 have r:=zdA (xm c) ns (zn m.L)
 have s:qw ((zn m.L).map (fun k=>qW (fun x=>xm c x=k) ns))=Xh m.L:=by
  unfold zn Xh
  rw[List.map_map]
  refine congrArg qw (List.map_congr_left (fun p b=>?_))
  dsimp only[Function.comp]
  unfold yV
  by_cases g:p.1.t= -1
  ·have n:=(a.seg.raw p b g).1
   rw[if_pos n,(l.cell p b (by omega)).cnt]
   refine(kP (fun x _=>?_)).1
   rw[g];exact Iff.rfl
  ·have f:=a.seg.inr p b
   have n:=a.seg.tier p b (by have:=f.2.1;omega)
   rw[if_neg (by omega)]
   exact qq.2 (fun x _ e=>g (by rw[<-e];rfl))
 have u:=J0 m.L a.seg.sts
 have v:=a.seg.used
 have w:=d.qu
 have j:∀k,0<=xR m.L k:=fun k=>by
  unfold xR
  refine zew _ (fun x i=>?_)
  obtain⟨p,-,rfl⟩:=List.mem_map.1 i
  unfold zaN;split<;>omega
 have:=j 2
 have:=j 3
 omega
theorem yh.cost(h:yh c ep m r){x:Nm}(g:m.now-c.la<=x.tm):∀k:Nat,k<=c.n->Z7 r (xb r.c r.nu) x k=zJ m.L+1+2*qO c m.L x k
 |0,_=>by
  have:=h.used
  simp[Z7,qO,this]
 |k+1,j=>by
  have i:=h.cost g k (by omega)
  have f:zF c (k:Int) x∉zj m.Gl:=jF h.ok h.sok.ok g (by omega) (by omega)
  have b:=h.tie.hc
  by_cases d:zF r.c (k:Int) x∈xb r.c r.nu
  ·have a:zF c (k:Int) x∈zn m.L:=by
    have:=(h.segs _).1 d
    rw[b]at this
    exact this.resolve_right f
   rw[znq d,i];simp[qO,a]
  ·have a:¬zF c (k:Int) x∈zn m.L:=fun e=>d ((h.segs _).2 (.inl (by rw[b];exact e)))
   rw[zky d,i];simp only[qO,if_neg a];omega
theorem yh.ingest(h:yh c ep m r)(sr tm val:Int)(t: -2147483648<=val/\val<=2147483647):(r.ingest sr tm val).2=(ye c m sr tm val).2/\yh c ep (ye c m sr tm val).1 (r.ingest sr tm val).1:=by
 have a:=h.tie.now
 have b:=h.tie.hc
 by_cases f:sr<0\/4<=sr
 ·rw[zfi f,show ye c m sr tm val=(m,2)from by unfold ye;rw[if_pos f]]
  exact⟨rfl,h⟩
 by_cases k:tm<0\/m.now<tm
 ·rw[zcv f (by rw[a];exact k),show ye c m sr tm val=(m,5)from by unfold ye;rw[if_neg f,if_pos k]]
  exact⟨rfl,h⟩
 by_cases o:tm<m.now-c.la
 ·rw[zcu f (by rw[a];exact k) (by rw[a,b];exact o),show ye c m sr tm val=(m,3)from by unfold ye;rw[if_neg f,if_neg k,if_pos o]]
  exact⟨rfl,h⟩
 have w:m.now-c.la<=(⟨sr,tm,val⟩:Nm).tm:=by show m.now-c.la<=tm;omega
 have g:=h.cost w c.n (Nat.le_refl _)
 by_cases B:c.qu<zJ m.L+(1+2*qO c m.L ⟨sr,tm,val⟩ c.n)
 ·rw[zct f (by rw[a];exact k) (by rw[a,b];exact o) (by rw[b]at g ⊢;rw[g];omega),show ye c m sr tm val=(m,4)from by unfold ye;rw[if_neg f,if_neg k,if_neg o,if_pos B]]
  exact⟨rfl,h⟩
 rw[zhT f (by rw[a];exact k) (by rw[a,b];exact o) (by rw[b]at g ⊢;rw[g];omega),show ye c m sr tm val=({m with L:=yu c m.L ⟨sr,tm,val⟩},0)from by unfold ye;rw[if_neg f,if_neg k,if_neg o,if_neg B]]
 have A:yL c ep m r.nu {m with L:=yu c m.L ⟨sr,tm,val⟩} (r.nu++[⟨sr,tm,val⟩]):=.added m r.nu ⟨sr,tm,val⟩ ⟨by show 0<=sr;omega,by show sr<4;omega⟩ ⟨by show 0<=tm;omega,by show tm<=m.now;omega⟩ w t (by omega)
 have i:=A.ok h.ok h.fits h.sok
 have q:=h.tie.inv.act h.ok h.fits h.sok (by have:=h.len;omega) A
 have p:=h.comp.added h.ok h.fits h.sok.ok i.ok w
 have y:=h.sok.ok.seg
 have d:zdv c {m with L:=yu c m.L ⟨sr,tm,val⟩} {r with nu:=r.nu++[⟨sr,tm,val⟩]}:=by
  refine⟨b,a,h.tie.gone,fun s=>?_,q⟩
  rw[h.tie.pub s]
  refine or_congr ⟨fun⟨v,hv,l⟩=>⟨v,J3 hv (fun e=>?_),l⟩,fun⟨v,hv,l⟩=>?_⟩ Iff.rfl
  ·have D:=(y.raw _ hv (by rw[show s=xm c ⟨sr,tm,val⟩from e];rfl)).1
   dsimp only at D;omega
  ·rcases XC hv with e|⟨e,-⟩|⟨j,H,e,-⟩
   ·injection e with C u;rw[u]at l;simp at l
   ·exact⟨v,e,l⟩
   ·injection e with C u;rw[u]at l;simp at l
 have z:=ZC h.ok h.fits i.ok d h.tsk p.posted
 refine⟨rfl,⟨h.ok,h.fits,i,⟨d.hc,d.now,d.gone,d.pub,d.inv⟩,z,h.slot,h.picks,h.epo,fun s F=>?_,h.ng,h.np,fun T=>?_,p⟩⟩
 ·obtain⟨x,G,e⟩:=h.ghas s F
  exact⟨x,List.mem_append_left _ G,e⟩
 ·show qW (fun x=>x.tm=(T:Int)) (r.nu++[⟨sr,tm,val⟩])<=400
  by_cases e:tm=(T:Int)
  ·exact zkP h.ok i.ok q (by show m.now-c.la<=_;omega)
  ·rw[(Z6 _ _).1,if_neg e]
   have:=h.full T
   omega
end
def ZA(x:SX):List Int:=zke x++(if Xf x.2.st then zmy x else[])
structure rdX(c:Cf)(x:SX):Prop where
 t: -1<=x.1.t/\x.1.t<c.n
 sr:0<=x.1.sr/\x.1.sr<4
 wn:0<=x.1.wn/\x.1.wn<=100000
 st:1<=x.2.st/\x.2.st<=4
 cel:Xf x.2.st=true->1<=x.2.cl.cnt/\x.2.cl.cnt<=2147483647/\xg x.2.cl.sum/\(-2147483648<=x.2.cl.mn/\x.2.cl.mn<=2147483647)/\(-2147483648<=x.2.cl.mx/\x.2.cl.mx<=2147483647)
 no:Xf x.2.st=false->x.2.cl=qt
 raw:x.2.st≠4->(x.2.st=1↔x.1.t= -1)
theorem Yq(a:Nat)(W:World):(Instr.fieldAt 148 (O a) 2).run prog W=.ok (.pointer (E (U a 4))) W:=by kernel_rfl
theorem Ya.kept{f:Nat->Prop}{w w':World}{p g:Nat}{b:List Int}{k:Nat}(h:Ya w p g b k)(a:zh f w w')(c:¬f p)(d:¬f g):Ya w' p g b k:=by
 obtain⟨ad,i,e⟩:=h.head
 exact⟨⟨ad,a.heap i c,e⟩,a.heap h.row d⟩
structure ExpF(n:Int)(TL:List (Jk×Tsk))(QL:List (Tok×Lse))(T1:List (Jk×Tsk))(Q1:List (Tok×Lse))(D:List Jk):Prop where
 tl:T1=TL.map (fun p=>if p.1∈D then(p.1,p.2.failed n)else p)
 sub:∀q∈Q1,q∈QL
 out:∀q∈QL,q∈Q1\/(q.2.job∈D/\q.2.til<=n)
 inn:∀q∈Q1,q.2.job∉D
 has:∀k∈D,∃q∈QL,q.2.job=k
 nq:(zj Q1).Nodup
 jobs:(Q1.map (fun q=>q.2.job)).Nodup
theorem zhJ{n:Int}{TL:List (Jk×Tsk)}{QL:List (Tok×Lse)}(nt:(zj TL).Nodup)(nq:(zj QL).Nodup)(jobs:(QL.map (fun q=>q.2.job)).Nodup){i:List (Jk×Tsk)}{Q1:List (Tok×Lse)}(h:zag n TL QL i Q1):∃D,ExpF n TL QL i Q1 D:=by
 induction h with
 |nil=>exact⟨[],by simp,fun q h=>h,fun q h=> .inl h,fun q _=>by simp,fun k m=>(by cases m),nq,jobs⟩
 | @step i Q1 t g x _ z r G H=>
  obtain⟨D,A,i2,i3,i4,i5,B,C⟩:=H
  have c:=zB z
  have d:g.job∉D:=i4 _ c
  have w:zD i g.job=E x:=G
  have f:=zB w
  have y:(g.job,x)∈TL:=by
   rw[A]at f
   obtain⟨p,u,e⟩:=List.mem_map.1 f
   by_cases a:p.1∈D
   ·rw[if_pos a]at e
    injection e with F I
    exact absurd (F▸a) d
   ·rw[if_neg a]at e
    rw[<-e];exact u
  refine⟨g.job::D,?_,fun q j=>i2 q (zT.1 j).1,fun q j=>?_,fun q j=>?_,fun k m=>?_,xU B,Zu C _⟩
  ·show xZ i g.job (x.failed n)=_
   unfold xZ
   rw[if_pos (show g.job∈zj i from List.mem_map.2 ⟨_,f,rfl⟩),A,List.map_map]
   refine List.map_congr_left (fun p u=>?_)
   dsimp only[Function.comp]
   by_cases a:p.1∈D
   ·have s:¬p.1=g.job:=fun e=>d (e▸a)
    simp[a,s]
   ·by_cases e:p.1=g.job
    ·have b:zD TL p.1=E p.2:=xp nt u
     have o:zD TL g.job=E x:=xp nt y
     rw[e,o]at b
     injection b with b
     have v:p=(g.job,x):=Prod.ext e b.symm
     subst v
     simp[d]
    ·simp[a,e]
  ·rcases i3 q j with b|⟨b,o⟩
   ·by_cases e:q.1=t
    ·have l:zD Q1 q.1=E q.2:=xp B b
     rw[e,z]at l
     injection l with l
     exact .inr ⟨by rw[<-l];simp,by rw[<-l];exact r⟩
    ·exact .inl (zT.2 ⟨b,e⟩)
   ·exact .inr ⟨List.mem_cons_of_mem _ b,o⟩
  ·intro a
   rcases List.mem_cons.1 a with e|a
   ·exact Zd C c j e
   ·exact i4 q (zT.1 j).1 a
  ·rcases List.mem_cons.1 m with rfl|m
   ·exact⟨_,i2 _ c,rfl⟩
   ·exact i5 k m
theorem xB.expired{n:Int}{TL r:List (Jk×Tsk)}{QL Q1:List (Tok×Lse)}{D:List Jk}{l:List Tk}(G:∀p∈TL,p.1=p.2.key)(j:∀q∈QL,0<=q.2.slot)(h:xB TL QL l)(f:ExpF n TL QL r Q1 D)(I:∀p∈Q1,n<p.2.til):xB r Q1 (l.map (zkL n)):=by
 obtain⟨M,v,L,rfl⟩:=h
 refine⟨M.map (fun z=>if z.key∈D then z.failed n else z),?_,?_,?_⟩
 ·have e:r.map (·.2)=(TL.map (·.2)).map (fun z=>if z.key∈D then z.failed n else z):=by
   rw[f.tl,List.map_map,List.map_map]
   refine List.map_congr_left (fun p H=>?_)
   dsimp only[Function.comp]
   rw[<-G p H]
   split<;>rfl
  rw[e];exact v.map _
 ·rw[List.pairwise_map]
  refine L.imp (fun{a b} h=>?_)
  have B:∀z:Tsk,(if z.key∈D then z.failed n else z).kd=z.kd/\(if z.key∈D then z.failed n else z).s=z.s:=fun z=>by split<;>exact⟨rfl,rfl⟩
  have y:=B a
  have A:=B b
  rw[qH]at h ⊢
  rw[y.1,y.2,A.1,A.2]
  exact h
 ·rw[List.map_map,List.map_map]
  refine List.map_congr_left (fun z O=>?_)
  dsimp only[Function.comp]
  rcases Zt QL z with⟨q,m,g,e⟩|⟨hn,e⟩
  ·rcases f.out q m with d|⟨d,w⟩
   ·have c:z.key∉D:=g▸f.inn q d
    rw[if_neg c]
    have k:ji Q1 z=(q.1,q.2.slot,q.2.til):=XS f.jobs d g
    have C:yU QL z=yU Q1 z:=jw (e.trans k.symm)
    rw[C]
    unfold zkL
    rw[if_neg]
    rintro⟨-,F⟩
    have x:(yU Q1 z).till=q.2.til:=by show(ji Q1 z).2.2=_;rw[k]
    have:=I q d
    omega
   ·have c:z.key∈D:=g▸d
    rw[if_pos c]
    have u:ji Q1 (z.failed n)=(⟨0,0⟩,-1,0):=Zc (fun o i t=>f.inn o i (by rw[show o.2.job=z.key from t];exact c))
    unfold zkL
    rw[if_pos]
    ·unfold Tk.fail yU
     rw[u]
     rfl
    ·have x:(yU QL z).till=q.2.til:=by show(ji QL z).2.2=_;rw[e]
     have N:(yU QL z).slot=q.2.slot:=by show(ji QL z).2.1=_;rw[e]
     have:=j q m
     omega
  ·have c:z.key∉D:=fun c=>by
    obtain⟨q,d,w⟩:=f.has _ c
    exact hn q d w
   rw[if_neg c]
   have k:ji Q1 z=(⟨0,0⟩,-1,0):=Zc (fun o i t=>hn o (f.sub o i) t)
   rw[jw (e.trans k.symm)]
   unfold zkL
   rw[if_neg]
   rintro⟨F,-⟩
   have x:(yU Q1 z).slot= -1:=by show(ji Q1 z).2.1=_;rw[k]
   omega
section
variable {c:Cf} {ep:Int} {m:MS} {r:RM}
theorem yh.tick_bad(h:yh c ep m r){n:Int}(a:n<1\/1000<n\/100000<m.now+n):r.tickL n=(r,5):=zjK (by rw[h.tie.now];exact a)
theorem yh.tick(h:yh c ep m r){n:Int}(hn:1<=n/\n<=1000)(f:m.now+n<=100000){b e:List (Jk×Tsk)}{a:List (Tok×Lse)}(i:zag (m.now+n) m.TL m.QL b a)(o:∀p∈a,m.now+n<p.2.til)(g:xA c {m with now:=m.now+n,TL:=b,QL:=a} e):(r.tickL n).2=0/\yh c ep {m with now:=m.now+n,TL:=e,QL:=a} (r.tickL n).1:=by
 have w:r.tickL n=({r with now:=r.now+n,td:=r.td.map (zkL (r.now+n))}.settled,0):=zmm (by rw[h.tie.now];omega)
 rw[w]
 refine⟨rfl,?_⟩
 have l:=h.sok.ok.exps (n':=m.now+n) ⟨by omega,f⟩ i o
 obtain⟨D,u⟩:=zhJ h.sok.ok.nt h.sok.ok.nq h.sok.ok.jobs i
 have j:ZI c {m with now:=m.now+n,TL:=b,QL:=a} r.nu:=h.tie.inv.ticked (by omega) (zdG i) m.num
 have d:zdv c {m with now:=m.now+n,TL:=b,QL:=a} {r with now:=r.now+n,td:=r.td.map (zkL (r.now+n))}:=⟨h.tie.hc,by show r.now+n=m.now+n;rw[h.tie.now],h.tie.gone,h.tie.pub,j⟩
 have k:xB b a (r.td.map (zkL (r.now+n))):=by
  rw[h.tie.now]
  exact h.tsk.expired (fun p g=>(h.sok.ok.td p g).key) h.slot u o
 have t:=ZC h.ok h.fits l d k g
 have v:yL c ep m r.nu {m with now:=m.now+n,TL:=e,QL:=a} r.nu:=.ticked m r.nu n b e a hn.1 f i o g
 refine⟨h.ok,h.fits,v.ok h.ok h.fits h.sok,⟨d.hc,d.now,d.gone,d.pub,h.tie.inv.act h.ok h.fits h.sok (by have:=h.len;omega) v⟩,t,fun q s=>h.slot q (u.sub q s),h.picks,h.epo,h.ghas,h.ng,h.np,h.full,X8.of g⟩
end
theorem zgh{w:World}{p g:Nat}{ws:List Int}{k:Nat}(h:Ya w p g ws k)(c:Cf)(hc:c.ok)(a:Option Addr)(cap:Nat)(x:SX)(S:rdX c x)(an:x.2.st=2)(hw:∀j n,(ZA x)[j]?=E n->ws[k+j]?=E n):
  Calls prog 201 #[(O p),(cZz c a cap)] w fun e w'=>e=.returned (.agg (xZz x))/\Ya w' p g ws (k+(ZA x).length)/\zh (fun q=>q=p) w w':=by
 obtain⟨⟨t,sr,wn⟩,⟨st,⟨cnt,sum,mn,mx⟩⟩⟩:=x
 obtain⟨ad,ai,-⟩:=h.head
 have pl:=zd ai
 have gl:=zd h.row
 have aI:=hc.n4
 obtain⟨t1,t2⟩:=S.t
 obtain⟨s1,s2⟩:=S.sr
 obtain⟨w1,w2⟩:=S.wn
 obtain⟨e1,e2⟩:=S.st
 have R:=S.cel
 have a0:=S.no
 have P:=S.raw
 dsimp only at t1 t2 s1 s2 w1 w2 e1 e2 R a0 P an ⊢
 subst an
 clear S
 have aJ:¬t= -1:=by exact fun e=>absurd ((P (by omega)).2 e) (by omega)
 obtain⟨rfl,rfl,rfl,rfl⟩:cnt=0/\sum=0/\mn=0/\mx=0:=by have:=a0 rfl;unfold qt at this;injection this with a1 a2 a3 a4;exact⟨a1,a2,a3,a4⟩
 have ao:ZA (⟨t,sr,wn⟩,⟨2,⟨0,0,0,0⟩⟩)=[t,sr,wn,2]:=rfl
 have aq:=ze ao
 clear R a0 P ao e1 e2
 obtain⟨y0,y1,y2,Z,hz⟩:=J5 w (.cells (aZz c a cap) 89) zak zak
 have HT:=fun W=>ze (kS c a cap W)
 have ag:=h.kept (zh.of_below (f:=fun _=>False) Z) (fun e=>e) (fun e=>e)
 obtain⟨l0,-⟩:=zc y0
 have T:=ze Z
 have aa:=ze ag
 have Y2:=ze y2
 have Y1:=ze y1
 have HZ:=ze hz
 clear h ai Z ag y0 y1 y2 l0 hz
 go_enter func201,ntmps201
 go_wp2_with fail
 generalize(((w.alloc (.cells (aZz c a cap) 89)).alloc zak).alloc zak)=X at*
 refine(ud (HT _)).mono ?_
 rintro e X1 ⟨rfl,G⟩
 have hz:=ud HZ
 obtain⟨b,ah⟩:∃b,w.1.size+1+1=b:=⟨_,rfl⟩
 have C:X1.1[b]?=E (.cells #[I 0,I 0,I 0,I 0,I 0,I 0,J K 0,J K 0] 148 (0,0)):=by rw[<-ah];exact(G.block _ (by omega)).trans (ud Y2)
 obtain⟨D,al⟩:∃D,w.1.size+1=D:=⟨_,rfl⟩
 have am:X1.1[D]?=E (.cells #[I 0,I 0,I 0,I 0,I 0,I 0,J K 0,J K 0] 148 (0,0)):=by rw[<-al];exact(G.block _ (by omega)).trans (ud Y1)
 have a9:=ze am
 have l:zh (fun q=>q=p\/q=b) X1 X1:=zh.refl _ _
 have F:=(ud aa).kept (zh.of_below (f:=fun _=>False) G) (fun e=>e) (fun e=>e)
 have m:zh (fun q=>q=p) w X1:=zh.of_below ((ud T).trans (G.mono (ud T).size))
 have aH:=fun W=>Yq b W
 have A:¬b=p:=by omega
 have Q:¬b=g:=by omega
 rw[ah,al]
 have ak:¬D=p:=by omega
 have aG:¬D=b:=by omega
 clear G HT aa Y1 Y2 T HZ am
 go_wp2_with fail
 have a5:=ze (zW F (n:=t) (hw 0 _ (by rfl)) (by unfold xg;omega) (-1) (c.n-1) (by omega) (by omega))
 refine(ud a5).mono ?_
 rintro e V0 ⟨rfl,ab,V⟩
 have H:=V.heap C (show¬b=p from A)
 obtain⟨au,-⟩:=zc H
 have ax:=zv H 0
 have aB:=zd H
 have z:=xy (i:=0) H (I t)
 have d:zh (fun q=>q=p\/q=b) X1 (V0.setCell (U b 0) (I t)):=(V.mono (fun _ _ e=> .inl e)).trans (zh.setCell (f:=fun q=>q=b) (zh.refl _ _) (p:=(U b 0)) (fun _=>rfl) _) (fun _ _ e=> .inr e)
 have y:=ab.kept (zh.setCell (f:=fun q=>q=b) (zh.refl _ _) (p:=(U b 0)) (fun _=>rfl) (I t)) (fun e=>A e.symm) (fun e=>Q e.symm)
 have r:=ze y
 have u:=ze z
 have s:=ze (l.trans d (fun _ _ e=>e))
 have o:=ze (m.trans d (fun _ hk e=>e.elim id (fun e=>absurd e (by omega))))
 clear F ab V C y z d m l a5
 go_wp2_with fail
 generalize B:V0.setCell (U b 0) (I t)=W0 at*
 have F:=ud r
 have C:=ud u
 have m:=ud o
 have l:=ud s
 clear r u o s H au ax aB B
 have a6:=ze (zW F (n:=sr) (hw 1 _ (by rfl)) (by unfold xg;omega) 0 3 (by omega) (by omega))
 refine(ud a6).mono ?_
 rintro e V1 ⟨rfl,ac,hK1⟩
 have L:=hK1.heap C (show¬b=p from A)
 obtain⟨-,av,-⟩:=zc L
 have ay:=zv L 1
 have aC:=zd L
 have z:=xy (i:=1) L (I sr)
 have d:zh (fun q=>q=p\/q=b) W0 (V1.setCell (U b 1) (I sr)):=(hK1.mono (fun _ _ e=> .inl e)).trans (zh.setCell (f:=fun q=>q=b) (zh.refl _ _) (p:=(U b 1)) (fun _=>rfl) _) (fun _ _ e=> .inr e)
 have y:=ac.kept (zh.setCell (f:=fun q=>q=b) (zh.refl _ _) (p:=(U b 1)) (fun _=>rfl) (I sr)) (fun e=>A e.symm) (fun e=>Q e.symm)
 have r:=ze y
 have u:=ze z
 have s:=ze (l.trans d (fun _ _ e=>e))
 have o:=ze (m.trans d (fun _ hk e=>e.elim id (fun e=>absurd e (by omega))))
 clear F ac hK1 C y z d m l a6
 go_wp2_with fail
 generalize B:V1.setCell (U b 1) (I sr)=W1 at*
 have F:=ud r
 have C:=ud u
 have m:=ud o
 have l:=ud s
 clear r u o s L av ay aC B
 have a7:=ze (zW F (n:=wn) (hw 2 _ (by rfl)) (by unfold xg;omega) 0 100000 (by omega) (by omega))
 refine(ud a7).mono ?_
 rintro e V2 ⟨rfl,ae,hK2⟩
 have M:=hK2.heap C (show¬b=p from A)
 obtain⟨-,-,hc2,-⟩:=zc M
 have az:=zv M 2
 have aD:=zd M
 have z:=xy (i:=2) M (I wn)
 have d:zh (fun q=>q=p\/q=b) W1 (V2.setCell (U b 2) (I wn)):=(hK2.mono (fun _ _ e=> .inl e)).trans (zh.setCell (f:=fun q=>q=b) (zh.refl _ _) (p:=(U b 2)) (fun _=>rfl) _) (fun _ _ e=> .inr e)
 have y:=ae.kept (zh.setCell (f:=fun q=>q=b) (zh.refl _ _) (p:=(U b 2)) (fun _=>rfl) (I wn)) (fun e=>A e.symm) (fun e=>Q e.symm)
 have r:=ze y
 have u:=ze z
 have s:=ze (l.trans d (fun _ _ e=>e))
 have o:=ze (m.trans d (fun _ hk e=>e.elim id (fun e=>absurd e (by omega))))
 clear F ae hK2 C y z d m l a7
 go_wp2_with fail
 generalize B:V2.setCell (U b 2) (I wn)=W2 at*
 have F:=ud r
 have C:=ud u
 have m:=ud o
 have l:=ud s
 clear r u o s M hc2 az aD B
 have a8:=ze (zW F (n:=2) (hw 3 _ (by rfl)) (by unfold xg;omega) 1 4 (by omega) (by omega))
 refine(ud a8).mono ?_
 rintro e V3 ⟨rfl,af,Y⟩
 have N:=Y.heap C (show¬b=p from A)
 obtain⟨-,-,-,aw,-⟩:=zc N
 have aA:=zv N 3
 have aE:=zd N
 have z:=xy (i:=3) N (I 2)
 have d:zh (fun q=>q=p\/q=b) W2 (V3.setCell (U b 3) (I 2)):=(Y.mono (fun _ _ e=> .inl e)).trans (zh.setCell (f:=fun q=>q=b) (zh.refl _ _) (p:=(U b 3)) (fun _=>rfl) _) (fun _ _ e=> .inr e)
 have y:=af.kept (zh.setCell (f:=fun q=>q=b) (zh.refl _ _) (p:=(U b 3)) (fun _=>rfl) (I 2)) (fun e=>A e.symm) (fun e=>Q e.symm)
 have r:=ze y
 have u:=ze z
 have s:=ze (l.trans d (fun _ _ e=>e))
 have o:=ze (m.trans d (fun _ hk e=>e.elim id (fun e=>absurd e (by omega))))
 clear F af Y C y z d m l a8
 go_wp2_with fail
 refine(yZ 2 _).mono ?_
 rintro e U9 ⟨rfl,ar⟩
 subst ar
 generalize B:V3.setCell (U b 3) (I 2)=W3 at*
 have F:=ud r
 have C:=ud u
 have m:=ud o
 have l:=ud s
 clear r u o s N aw aA aE B
 have r:=ze F
 have o:=ze m
 obtain⟨z0,z1,z2,z3,z4,z5,z6,z7⟩:=z8 C
 have zl:=zd C
 have hr:=l.heap (ud a9) (fun e=>e.elim ak aG)
 obtain⟨r0,r1,r2,r3,r4,r5,r6,r7⟩:=z8 hr
 have rf:=fun j=>zv hr j
 have rl:=zd hr
 have ap:=ze hr
 clear F C m hr l a9
 go_wp2_with fail
 have aF:=ud ap
 have hf:=zdd aF (I t) (I sr) (I wn) (I 2) (I 0) (I 0) (J K 0) (J K 0)
 have aj:zh (fun q=>q=D) W3 ((((((((W3.setCell (U D 0) (I t)).setCell (U D 1) (I sr)).setCell (U D 2) (I wn)).setCell (U D 3) (I 2)).setCell (U D 4) (I 0)).setCell (U D 5) (I 0)).setCell (U D 6) (J K 0)).setCell (U D 7) (J K 0)):=(zg (zg (zg (zg (zg (zg (zg (zg (zh.refl _ _) rfl) rfl) rfl) rfl) rfl) rfl) rfl) rfl)
 refine bodyPost_ret (v:=.agg #[I t,I sr,I wn,I 2,I 0,I 0,J K 0,J K 0]) (results_cell_row results201 _ _ D _ _ _ _ rfl hf underlying148 rfl (by kernel_rfl)) rfl ?_
 exact⟨rfl,by rw[ud aq];exact(ud r).kept aj (fun e=>ak e.symm) (fun e=>absurd e (by omega)),(ud o).trans aj (fun _ hk e=>absurd e (by omega))⟩
theorem zgj{w:World}{p g:Nat}{ws:List Int}{k:Nat}(h:Ya w p g ws k)(c:Cf)(hc:c.ok)(a:Option Addr)(cap:Nat)(x:SX)(S:rdX c x)(an:x.2.st=4)(hw:∀j n,(ZA x)[j]?=E n->ws[k+j]?=E n):
  Calls prog 201 #[(O p),(cZz c a cap)] w fun e w'=>e=.returned (.agg (xZz x))/\Ya w' p g ws (k+(ZA x).length)/\zh (fun q=>q=p) w w':=by
 obtain⟨⟨t,sr,wn⟩,⟨st,⟨cnt,sum,mn,mx⟩⟩⟩:=x
 obtain⟨ad,ai,-⟩:=h.head
 have pl:=zd ai
 have gl:=zd h.row
 have aI:=hc.n4
 obtain⟨t1,t2⟩:=S.t
 obtain⟨s1,s2⟩:=S.sr
 obtain⟨w1,w2⟩:=S.wn
 obtain⟨e1,e2⟩:=S.st
 have Q:=S.cel
 have a0:=S.no
 have R:=S.raw
 dsimp only at t1 t2 s1 s2 w1 w2 e1 e2 Q a0 R an ⊢
 subst an
 clear S
 have aJ:True:=by trivial
 obtain⟨rfl,rfl,rfl,rfl⟩:cnt=0/\sum=0/\mn=0/\mx=0:=by have:=a0 rfl;unfold qt at this;injection this with a1 a2 a3 a4;exact⟨a1,a2,a3,a4⟩
 have ao:ZA (⟨t,sr,wn⟩,⟨4,⟨0,0,0,0⟩⟩)=[t,sr,wn,4]:=rfl
 have aq:=ze ao
 clear Q a0 R ao e1 e2
 obtain⟨y0,y1,y2,Z,hz⟩:=J5 w (.cells (aZz c a cap) 89) zak zak
 have HT:=fun W=>ze (kS c a cap W)
 have ag:=h.kept (zh.of_below (f:=fun _=>False) Z) (fun e=>e) (fun e=>e)
 obtain⟨l0,-⟩:=zc y0
 have T:=ze Z
 have aa:=ze ag
 have Y2:=ze y2
 have Y1:=ze y1
 have HZ:=ze hz
 clear h ai Z ag y0 y1 y2 l0 hz
 go_enter func201,ntmps201
 go_wp2_with fail
 generalize(((w.alloc (.cells (aZz c a cap) 89)).alloc zak).alloc zak)=X at*
 refine(ud (HT _)).mono ?_
 rintro e X1 ⟨rfl,G⟩
 have hz:=ud HZ
 obtain⟨b,ah⟩:∃b,w.1.size+1+1=b:=⟨_,rfl⟩
 have C:X1.1[b]?=E (.cells #[I 0,I 0,I 0,I 0,I 0,I 0,J K 0,J K 0] 148 (0,0)):=by rw[<-ah];exact(G.block _ (by omega)).trans (ud Y2)
 obtain⟨D,al⟩:∃D,w.1.size+1=D:=⟨_,rfl⟩
 have am:X1.1[D]?=E (.cells #[I 0,I 0,I 0,I 0,I 0,I 0,J K 0,J K 0] 148 (0,0)):=by rw[<-al];exact(G.block _ (by omega)).trans (ud Y1)
 have a9:=ze am
 have l:zh (fun q=>q=p\/q=b) X1 X1:=zh.refl _ _
 have F:=(ud aa).kept (zh.of_below (f:=fun _=>False) G) (fun e=>e) (fun e=>e)
 have m:zh (fun q=>q=p) w X1:=zh.of_below ((ud T).trans (G.mono (ud T).size))
 have aH:=fun W=>Yq b W
 have A:¬b=p:=by omega
 have P:¬b=g:=by omega
 rw[ah,al]
 have ak:¬D=p:=by omega
 have aG:¬D=b:=by omega
 clear G HT aa Y1 Y2 T HZ am
 go_wp2_with fail
 have a5:=ze (zW F (n:=t) (hw 0 _ (by rfl)) (by unfold xg;omega) (-1) (c.n-1) (by omega) (by omega))
 refine(ud a5).mono ?_
 rintro e V0 ⟨rfl,ab,V⟩
 have H:=V.heap C (show¬b=p from A)
 obtain⟨au,-⟩:=zc H
 have ax:=zv H 0
 have aB:=zd H
 have z:=xy (i:=0) H (I t)
 have d:zh (fun q=>q=p\/q=b) X1 (V0.setCell (U b 0) (I t)):=(V.mono (fun _ _ e=> .inl e)).trans (zh.setCell (f:=fun q=>q=b) (zh.refl _ _) (p:=(U b 0)) (fun _=>rfl) _) (fun _ _ e=> .inr e)
 have y:=ab.kept (zh.setCell (f:=fun q=>q=b) (zh.refl _ _) (p:=(U b 0)) (fun _=>rfl) (I t)) (fun e=>A e.symm) (fun e=>P e.symm)
 have r:=ze y
 have u:=ze z
 have s:=ze (l.trans d (fun _ _ e=>e))
 have o:=ze (m.trans d (fun _ hk e=>e.elim id (fun e=>absurd e (by omega))))
 clear F ab V C y z d m l a5
 go_wp2_with fail
 generalize B:V0.setCell (U b 0) (I t)=W0 at*
 have F:=ud r
 have C:=ud u
 have m:=ud o
 have l:=ud s
 clear r u o s H au ax aB B
 have a6:=ze (zW F (n:=sr) (hw 1 _ (by rfl)) (by unfold xg;omega) 0 3 (by omega) (by omega))
 refine(ud a6).mono ?_
 rintro e V1 ⟨rfl,ac,hK1⟩
 have L:=hK1.heap C (show¬b=p from A)
 obtain⟨-,av,-⟩:=zc L
 have ay:=zv L 1
 have aC:=zd L
 have z:=xy (i:=1) L (I sr)
 have d:zh (fun q=>q=p\/q=b) W0 (V1.setCell (U b 1) (I sr)):=(hK1.mono (fun _ _ e=> .inl e)).trans (zh.setCell (f:=fun q=>q=b) (zh.refl _ _) (p:=(U b 1)) (fun _=>rfl) _) (fun _ _ e=> .inr e)
 have y:=ac.kept (zh.setCell (f:=fun q=>q=b) (zh.refl _ _) (p:=(U b 1)) (fun _=>rfl) (I sr)) (fun e=>A e.symm) (fun e=>P e.symm)
 have r:=ze y
 have u:=ze z
 have s:=ze (l.trans d (fun _ _ e=>e))
 have o:=ze (m.trans d (fun _ hk e=>e.elim id (fun e=>absurd e (by omega))))
 clear F ac hK1 C y z d m l a6
 go_wp2_with fail
 generalize B:V1.setCell (U b 1) (I sr)=W1 at*
 have F:=ud r
 have C:=ud u
 have m:=ud o
 have l:=ud s
 clear r u o s L av ay aC B
 have a7:=ze (zW F (n:=wn) (hw 2 _ (by rfl)) (by unfold xg;omega) 0 100000 (by omega) (by omega))
 refine(ud a7).mono ?_
 rintro e V2 ⟨rfl,ae,hK2⟩
 have M:=hK2.heap C (show¬b=p from A)
 obtain⟨-,-,hc2,-⟩:=zc M
 have az:=zv M 2
 have aD:=zd M
 have z:=xy (i:=2) M (I wn)
 have d:zh (fun q=>q=p\/q=b) W1 (V2.setCell (U b 2) (I wn)):=(hK2.mono (fun _ _ e=> .inl e)).trans (zh.setCell (f:=fun q=>q=b) (zh.refl _ _) (p:=(U b 2)) (fun _=>rfl) _) (fun _ _ e=> .inr e)
 have y:=ae.kept (zh.setCell (f:=fun q=>q=b) (zh.refl _ _) (p:=(U b 2)) (fun _=>rfl) (I wn)) (fun e=>A e.symm) (fun e=>P e.symm)
 have r:=ze y
 have u:=ze z
 have s:=ze (l.trans d (fun _ _ e=>e))
 have o:=ze (m.trans d (fun _ hk e=>e.elim id (fun e=>absurd e (by omega))))
 clear F ae hK2 C y z d m l a7
 go_wp2_with fail
 generalize B:V2.setCell (U b 2) (I wn)=W2 at*
 have F:=ud r
 have C:=ud u
 have m:=ud o
 have l:=ud s
 clear r u o s M hc2 az aD B
 have a8:=ze (zW F (n:=4) (hw 3 _ (by rfl)) (by unfold xg;omega) 1 4 (by omega) (by omega))
 refine(ud a8).mono ?_
 rintro e V3 ⟨rfl,af,Y⟩
 have N:=Y.heap C (show¬b=p from A)
 obtain⟨-,-,-,aw,-⟩:=zc N
 have aA:=zv N 3
 have aE:=zd N
 have z:=xy (i:=3) N (I 4)
 have d:zh (fun q=>q=p\/q=b) W2 (V3.setCell (U b 3) (I 4)):=(Y.mono (fun _ _ e=> .inl e)).trans (zh.setCell (f:=fun q=>q=b) (zh.refl _ _) (p:=(U b 3)) (fun _=>rfl) _) (fun _ _ e=> .inr e)
 have y:=af.kept (zh.setCell (f:=fun q=>q=b) (zh.refl _ _) (p:=(U b 3)) (fun _=>rfl) (I 4)) (fun e=>A e.symm) (fun e=>P e.symm)
 have r:=ze y
 have u:=ze z
 have s:=ze (l.trans d (fun _ _ e=>e))
 have o:=ze (m.trans d (fun _ hk e=>e.elim id (fun e=>absurd e (by omega))))
 clear F af Y C y z d m l a8
 go_wp2_with fail
 refine(yZ 4 _).mono ?_
 rintro e U9 ⟨rfl,ar⟩
 subst ar
 generalize B:V3.setCell (U b 3) (I 4)=W3 at*
 have F:=ud r
 have C:=ud u
 have m:=ud o
 have l:=ud s
 clear r u o s N aw aA aE B
 have r:=ze F
 have o:=ze m
 obtain⟨z0,z1,z2,z3,z4,z5,z6,z7⟩:=z8 C
 have zl:=zd C
 have hr:=l.heap (ud a9) (fun e=>e.elim ak aG)
 obtain⟨r0,r1,r2,r3,r4,r5,r6,r7⟩:=z8 hr
 have rf:=fun j=>zv hr j
 have rl:=zd hr
 have ap:=ze hr
 clear F C m hr l a9
 go_wp2_with fail
 have aF:=ud ap
 have hf:=zdd aF (I t) (I sr) (I wn) (I 4) (I 0) (I 0) (J K 0) (J K 0)
 have aj:zh (fun q=>q=D) W3 ((((((((W3.setCell (U D 0) (I t)).setCell (U D 1) (I sr)).setCell (U D 2) (I wn)).setCell (U D 3) (I 4)).setCell (U D 4) (I 0)).setCell (U D 5) (I 0)).setCell (U D 6) (J K 0)).setCell (U D 7) (J K 0)):=(zg (zg (zg (zg (zg (zg (zg (zg (zh.refl _ _) rfl) rfl) rfl) rfl) rfl) rfl) rfl) rfl)
 refine bodyPost_ret (v:=.agg #[I t,I sr,I wn,I 4,I 0,I 0,J K 0,J K 0]) (results_cell_row results201 _ _ D _ _ _ _ rfl hf underlying148 rfl (by kernel_rfl)) rfl ?_
 exact⟨rfl,by rw[ud aq];exact(ud r).kept aj (fun e=>ak e.symm) (fun e=>absurd e (by omega)),(ud o).trans aj (fun _ hk e=>absurd e (by omega))⟩
theorem zgg{w:World}{p g:Nat}{ws:List Int}{k:Nat}(h:Ya w p g ws k)(c:Cf)(hc:c.ok)(a:Option Addr)(cap:Nat)(x:SX)(hx:rdX c x)(aC:x.2.st=1)(hw:∀j n,(ZA x)[j]?=E n->ws[k+j]?=E n):
  Calls prog 201 #[(O p),(cZz c a cap)] w fun e w'=>e=.returned (.agg (xZz x))/\Ya w' p g ws (k+(ZA x).length)/\zh (fun q=>q=p) w w':=by
 obtain⟨⟨t,sr,wn⟩,⟨st,⟨cnt,sum,mn,mx⟩⟩⟩:=x
 obtain⟨ad,av,-⟩:=h.head
 have pl:=zd av
 have gl:=zd h.row
 have b7:=hc.n4
 obtain⟨t1,t2⟩:=hx.t
 obtain⟨s1,s2⟩:=hx.sr
 obtain⟨w1,w2⟩:=hx.wn
 obtain⟨e1,e2⟩:=hx.st
 have N:=hx.cel
 have ax:=hx.no
 have a0:=hx.raw
 dsimp only at t1 t2 s1 s2 w1 w2 e1 e2 N ax a0 aC ⊢
 subst aC
 clear hx
 have b2:t= -1:=by exact(a0 (by omega)).1 rfl
 obtain⟨q1,q2,q3,⟨q4,q5⟩,q6,q7⟩:=N rfl
 have aD:ZA (⟨t,sr,wn⟩,⟨1,⟨cnt,sum,mn,mx⟩⟩)=[t,sr,wn,1,cnt,sum,mn,mx]:=rfl
 subst b2
 have L:=ze aD
 clear N ax a0 aD e1 e2
 obtain⟨y0,y1,y2,a8,hz⟩:=J5 w (.cells (aZz c a cap) 89) zak zak
 have HT:=fun W=>ze (kS c a cap W)
 have ar:=h.kept (zh.of_below (f:=fun _=>False) a8) (fun e=>e) (fun e=>e)
 obtain⟨l0,-⟩:=zc y0
 have a2:=ze a8
 have ai:=ze ar
 have Y2:=ze y2
 have Y1:=ze y1
 have HZ:=ze hz
 clear h av a8 ar y0 y1 y2 l0 hz
 go_enter func201,ntmps201
 go_wp2_with fail
 generalize(((w.alloc (.cells (aZz c a cap) 89)).alloc zak).alloc zak)=X at*
 refine(ud (HT _)).mono ?_
 rintro e X1 ⟨rfl,M⟩
 have hz:=ud HZ
 obtain⟨b,au⟩:∃b,w.1.size+1+1=b:=⟨_,rfl⟩
 have D:X1.1[b]?=E (.cells #[I 0,I 0,I 0,I 0,I 0,I 0,J K 0,J K 0] 148 (0,0)):=by rw[<-au];exact(M.block _ (by omega)).trans (ud Y2)
 obtain⟨G,aA⟩:∃G,w.1.size+1=G:=⟨_,rfl⟩
 have aB:X1.1[G]?=E (.cells #[I 0,I 0,I 0,I 0,I 0,I 0,J K 0,J K 0] 148 (0,0)):=by rw[<-aA];exact(M.block _ (by omega)).trans (ud Y1)
 have aF:=ze aB
 have l:zh (fun q=>q=p\/q=b) X1 X1:=zh.refl _ _
 have C:=(ud ai).kept (zh.of_below (f:=fun _=>False) M) (fun e=>e) (fun e=>e)
 have o:zh (fun q=>q=p) w X1:=zh.of_below ((ud a2).trans (M.mono (ud a2).size))
 have b5:=fun W=>Yq b W
 have A:¬b=p:=by omega
 have F:¬b=g:=by omega
 rw[au,aA]
 have az:¬G=p:=by omega
 have ay:¬G=b:=by omega
 clear M HT ai Y1 Y2 a2 HZ aB
 go_wp2_with fail
 have a9:=ze (zW C (n:=(-1)) (hw 0 _ (by rfl)) (by unfold xg;omega) (-1) (c.n-1) (by omega) (by omega))
 refine(ud a9).mono ?_
 rintro e V0 ⟨rfl,aj,a3⟩
 have P:=a3.heap D (show¬b=p from A)
 obtain⟨aH,-⟩:=zc P
 have aN:=zv P 0
 have aU:=zd P
 have r:=xy (i:=0) P (I (-1))
 have d:zh (fun q=>q=p\/q=b) X1 (V0.setCell (U b 0) (I (-1))):=(a3.mono (fun _ _ e=> .inl e)).trans (zh.setCell (f:=fun q=>q=b) (zh.refl _ _) (p:=(U b 0)) (fun _=>rfl) _) (fun _ _ e=> .inr e)
 have m:=aj.kept (zh.setCell (f:=fun q=>q=b) (zh.refl _ _) (p:=(U b 0)) (fun _=>rfl) (I (-1))) (fun e=>A e.symm) (fun e=>F e.symm)
 have u:=ze m
 have z:=ze r
 have y:=ze (l.trans d (fun _ _ e=>e))
 have s:=ze (o.trans d (fun _ hk e=>e.elim id (fun e=>absurd e (by omega))))
 clear C aj a3 D m r d o l a9
 go_wp2_with fail
 generalize B:V0.setCell (U b 0) (I (-1))=W0 at*
 have C:=ud u
 have D:=ud z
 have o:=ud s
 have l:=ud y
 clear u z s y P aH aN aU B
 have aa:=ze (zW C (n:=sr) (hw 1 _ (by rfl)) (by unfold xg;omega) 0 3 (by omega) (by omega))
 refine(ud aa).mono ?_
 rintro e V1 ⟨rfl,ak,hK1⟩
 have Q:=hK1.heap D (show¬b=p from A)
 obtain⟨-,aI,-⟩:=zc Q
 have aO:=zv Q 1
 have aV:=zd Q
 have r:=xy (i:=1) Q (I sr)
 have d:zh (fun q=>q=p\/q=b) W0 (V1.setCell (U b 1) (I sr)):=(hK1.mono (fun _ _ e=> .inl e)).trans (zh.setCell (f:=fun q=>q=b) (zh.refl _ _) (p:=(U b 1)) (fun _=>rfl) _) (fun _ _ e=> .inr e)
 have m:=ak.kept (zh.setCell (f:=fun q=>q=b) (zh.refl _ _) (p:=(U b 1)) (fun _=>rfl) (I sr)) (fun e=>A e.symm) (fun e=>F e.symm)
 have u:=ze m
 have z:=ze r
 have y:=ze (l.trans d (fun _ _ e=>e))
 have s:=ze (o.trans d (fun _ hk e=>e.elim id (fun e=>absurd e (by omega))))
 clear C ak hK1 D m r d o l aa
 go_wp2_with fail
 generalize B:V1.setCell (U b 1) (I sr)=W1 at*
 have C:=ud u
 have D:=ud z
 have o:=ud s
 have l:=ud y
 clear u z s y Q aI aO aV B
 have ab:=ze (zW C (n:=wn) (hw 2 _ (by rfl)) (by unfold xg;omega) 0 100000 (by omega) (by omega))
 refine(ud ab).mono ?_
 rintro e V2 ⟨rfl,al,hK2⟩
 have R:=hK2.heap D (show¬b=p from A)
 obtain⟨-,-,hc2,-⟩:=zc R
 have aP:=zv R 2
 have aW:=zd R
 have r:=xy (i:=2) R (I wn)
 have d:zh (fun q=>q=p\/q=b) W1 (V2.setCell (U b 2) (I wn)):=(hK2.mono (fun _ _ e=> .inl e)).trans (zh.setCell (f:=fun q=>q=b) (zh.refl _ _) (p:=(U b 2)) (fun _=>rfl) _) (fun _ _ e=> .inr e)
 have m:=al.kept (zh.setCell (f:=fun q=>q=b) (zh.refl _ _) (p:=(U b 2)) (fun _=>rfl) (I wn)) (fun e=>A e.symm) (fun e=>F e.symm)
 have u:=ze m
 have z:=ze r
 have y:=ze (l.trans d (fun _ _ e=>e))
 have s:=ze (o.trans d (fun _ hk e=>e.elim id (fun e=>absurd e (by omega))))
 clear C al hK2 D m r d o l ab
 go_wp2_with fail
 generalize B:V2.setCell (U b 2) (I wn)=W2 at*
 have C:=ud u
 have D:=ud z
 have o:=ud s
 have l:=ud y
 clear u z s y R hc2 aP aW B
 have ac:=ze (zW C (n:=1) (hw 3 _ (by rfl)) (by unfold xg;omega) 1 4 (by omega) (by omega))
 refine(ud ac).mono ?_
 rintro e V3 ⟨rfl,am,a4⟩
 have S:=a4.heap D (show¬b=p from A)
 obtain⟨-,-,-,aJ,-⟩:=zc S
 have aQ:=zv S 3
 have aX:=zd S
 have r:=xy (i:=3) S (I 1)
 have d:zh (fun q=>q=p\/q=b) W2 (V3.setCell (U b 3) (I 1)):=(a4.mono (fun _ _ e=> .inl e)).trans (zh.setCell (f:=fun q=>q=b) (zh.refl _ _) (p:=(U b 3)) (fun _=>rfl) _) (fun _ _ e=> .inr e)
 have m:=am.kept (zh.setCell (f:=fun q=>q=b) (zh.refl _ _) (p:=(U b 3)) (fun _=>rfl) (I 1)) (fun e=>A e.symm) (fun e=>F e.symm)
 have u:=ze m
 have z:=ze r
 have y:=ze (l.trans d (fun _ _ e=>e))
 have s:=ze (o.trans d (fun _ hk e=>e.elim id (fun e=>absurd e (by omega))))
 clear C am a4 D m r d o l ac
 go_wp2_with fail
 refine(yZ 1 _).mono ?_
 rintro e U9 ⟨rfl,aG⟩
 subst aG
 generalize B:V3.setCell (U b 3) (I 1)=W3 at*
 have C:=ud u
 have D:=ud z
 have o:=ud s
 have l:=ud y
 clear u z s y S aJ aQ aX B
 go_wp2_with fail
 have ae:=ze (zW C (n:=cnt) (hw 4 _ (by rw[ud L];rfl)) (by unfold xg;omega) 1 2147483647 (by omega) (by omega))
 refine(ud ae).mono ?_
 rintro e V4 ⟨rfl,an,a5⟩
 have T:=a5.heap D (show¬b=p from A)
 obtain⟨-,-,-,-,aK,-⟩:=zc T
 have aR:=zv T 4
 have aY:=zd T
 have r:=xy (i:=4) T (I cnt)
 have d:zh (fun q=>q=p\/q=b) W3 (V4.setCell (U b 4) (I cnt)):=(a5.mono (fun _ _ e=> .inl e)).trans (zh.setCell (f:=fun q=>q=b) (zh.refl _ _) (p:=(U b 4)) (fun _=>rfl) _) (fun _ _ e=> .inr e)
 have m:=an.kept (zh.setCell (f:=fun q=>q=b) (zh.refl _ _) (p:=(U b 4)) (fun _=>rfl) (I cnt)) (fun e=>A e.symm) (fun e=>F e.symm)
 have u:=ze m
 have z:=ze r
 have y:=ze (l.trans d (fun _ _ e=>e))
 have s:=ze (o.trans d (fun _ hk e=>e.elim id (fun e=>absurd e (by omega))))
 clear C an a5 D m r d o l ae
 go_wp2_with fail
 generalize B:V4.setCell (U b 4) (I cnt)=W4 at*
 have C:=ud u
 have D:=ud z
 have o:=ud s
 have l:=ud y
 clear u z s y T aK aR aY B
 have af:=ze (zW C (n:=sum) (hw 5 _ (by rw[ud L];rfl)) (by exact q3) (-9223372036854775808) 9223372036854775807 (by exact q3.1) (by exact q3.2))
 refine(ud af).mono ?_
 rintro e V5 ⟨rfl,ao,a6⟩
 have V:=a6.heap D (show¬b=p from A)
 obtain⟨-,-,-,-,-,aL,-⟩:=zc V
 have aS:=zv V 5
 have aZ:=zd V
 have r:=xy (i:=5) V (I sum)
 have d:zh (fun q=>q=p\/q=b) W4 (V5.setCell (U b 5) (I sum)):=(a6.mono (fun _ _ e=> .inl e)).trans (zh.setCell (f:=fun q=>q=b) (zh.refl _ _) (p:=(U b 5)) (fun _=>rfl) _) (fun _ _ e=> .inr e)
 have m:=ao.kept (zh.setCell (f:=fun q=>q=b) (zh.refl _ _) (p:=(U b 5)) (fun _=>rfl) (I sum)) (fun e=>A e.symm) (fun e=>F e.symm)
 have u:=ze m
 have z:=ze r
 have y:=ze (l.trans d (fun _ _ e=>e))
 have s:=ze (o.trans d (fun _ hk e=>e.elim id (fun e=>absurd e (by omega))))
 clear C ao a6 D m r d o l af
 go_wp2_with fail
 generalize B:V5.setCell (U b 5) (I sum)=W5 at*
 have C:=ud u
 have D:=ud z
 have o:=ud s
 have l:=ud y
 clear u z s y V aL aS aZ B
 have ag:=ze (zW C (n:=mn) (hw 6 _ (by rw[ud L];rfl)) (by unfold xg;omega) (-2147483648) 2147483647 (by omega) (by omega))
 refine(ud ag).mono ?_
 rintro e V6 ⟨rfl,ap,a7⟩
 have Y:=a7.heap D (show¬b=p from A)
 obtain⟨-,-,-,-,-,-,aM,-⟩:=zc Y
 have aT:=zv Y 6
 have b0:=zd Y
 have r:=xy (i:=6) Y (J K mn)
 have d:zh (fun q=>q=p\/q=b) W5 (V6.setCell (U b 6) (J K mn)):=(a7.mono (fun _ _ e=> .inl e)).trans (zh.setCell (f:=fun q=>q=b) (zh.refl _ _) (p:=(U b 6)) (fun _=>rfl) _) (fun _ _ e=> .inr e)
 have m:=ap.kept (zh.setCell (f:=fun q=>q=b) (zh.refl _ _) (p:=(U b 6)) (fun _=>rfl) (J K mn)) (fun e=>A e.symm) (fun e=>F e.symm)
 have u:=ze m
 have z:=ze r
 have y:=ze (l.trans d (fun _ _ e=>e))
 have s:=ze (o.trans d (fun _ hk e=>e.elim id (fun e=>absurd e (by omega))))
 clear C ap a7 D m r d o l ag
 go_wp2_with fail
 generalize B:V6.setCell (U b 6) (J K mn)=W6 at*
 have C:=ud u
 have D:=ud z
 have o:=ud s
 have l:=ud y
 clear u z s y Y aM aT b0 B
 have ah:=ze (zW C (n:=mx) (hw 7 _ (by rw[ud L];rfl)) (by unfold xg;omega) (-2147483648) 2147483647 (by omega) (by omega))
 refine(ud ah).mono ?_
 rintro e V7 ⟨rfl,aq,a1⟩
 have H:=a1.heap D (show¬b=p from A)
 obtain⟨-,-,-,-,-,-,-,b3,-⟩:=zc H
 have b4:=zv H 7
 have b6:=zd H
 have r:=xy (i:=7) H (J K mx)
 have Z:=(l.trans (a1.mono (g:=fun q=>q=p\/q=b) (fun _ _ e=> .inl e)) (fun _ _ e=>e)).heap (ud aF) (fun e=>e.elim az ay)
 obtain⟨r0,r1,r2,r3,r4,r5,r6,r7⟩:=z8 Z
 have rf:=fun j=>zv Z j
 have rl:=zd Z
 have aE:=ze Z
 obtain⟨z0,z1,z2,z3,z4,z5,z6,z7⟩:=z8 H
 clear Z
 have d:zh (fun q=>q=p\/q=b) W6 (V7.setCell (U b 7) (J K mx)):=(a1.mono (fun _ _ e=> .inl e)).trans (zh.setCell (f:=fun q=>q=b) (zh.refl _ _) (p:=(U b 7)) (fun _=>rfl) _) (fun _ _ e=> .inr e)
 have m:=aq.kept (zh.setCell (f:=fun q=>q=b) (zh.refl _ _) (p:=(U b 7)) (fun _=>rfl) (J K mx)) (fun e=>A e.symm) (fun e=>F e.symm)
 have u:=ze m
 have z:=ze r
 have y:=ze l
 have s:=ze (o.trans d (fun _ hk e=>e.elim id (fun e=>absurd e (by omega))))
 clear H C aq a1 D m r d o l ah
 go_wp2_with fail
 have b1:(V7.setCell (U b 7) (J K mx)).1[G]?=E (.cells #[I 0,I 0,I 0,I 0,I 0,I 0,J K 0,J K 0] 148 (0,0)):=(Below.heap_setCell _ _ _ _ (show G≠((U b 7):Addr).block from ay)).trans (ud aE)
 have hf:=zdd b1 (I (-1)) (I sr) (I wn) (I 1) (I cnt) (I sum) (J K mn) (J K mx)
 have aw:zh (fun q=>q=G) (V7.setCell (U b 7) (J K mx)) (((((((((V7.setCell (U b 7) (J K mx)).setCell (U G 0) (I (-1))).setCell (U G 1) (I sr)).setCell (U G 2) (I wn)).setCell (U G 3) (I 1)).setCell (U G 4) (I cnt)).setCell (U G 5) (I sum)).setCell (U G 6) (J K mn)).setCell (U G 7) (J K mx)):=(zg (zg (zg (zg (zg (zg (zg (zg (zh.refl _ _) rfl) rfl) rfl) rfl) rfl) rfl) rfl) rfl)
 refine bodyPost_ret (v:=.agg #[I (-1),I sr,I wn,I 1,I cnt,I sum,J K mn,J K mx]) (results_cell_row results201 _ _ G _ _ _ _ rfl hf underlying148 rfl (by kernel_rfl)) rfl ?_
 exact⟨rfl,by rw[ud L];exact(ud u).kept aw (fun e=>az e.symm) (fun e=>absurd e (by omega)),(ud s).trans aw (fun _ hk e=>absurd e (by omega))⟩
end Go.Proofs.YtndhpgciopcncaaGreatDoor
