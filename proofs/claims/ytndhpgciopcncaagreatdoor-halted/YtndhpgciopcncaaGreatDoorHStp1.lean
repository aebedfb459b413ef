import Derived.Test.YtndhpgciopcncaaGreatDoorHMlz6
import Derived.Deep.RegionHeld3
import Derived.Lib.AtoiErrMem
open Go.Value renaming int → J
open Go.IntKind renaming i32 → K
open Option renaming some → E
set_option linter.unusedVariables false
set_option maxRecDepth 40000
set_option maxHeartbeats 4000000
open Go.Proofs.Tryz
namespace Go.Proofs.YtndhpgciopcncaaGreatDoor
open Go.RowKit Go.Maps Go.Shelf
variable {c:Cf} {n:Int} {T1 TL TL':List (Jk×Tsk)} {Q1 QL:List (Tok×Lse)} {ws:List Int} {l:List Tk} {g k p:Nat} {s:Sg} {w:World}
theorem zbz:(prog.info? 87).map (fun i=>(i.zero,i.size,i.bytes))=E (E (.agg #[I 0,I 0,J K 0]),3,24):=by kernel_rfl
theorem vS(a:World)(o:Obj):a.1.size<=(a.alloc o).drew.1.size:=by show a.1.size<=(a.alloc o).1.size;rw[zM];omega
theorem zmH{X V:World}(h:Below X.drew.1.size X.drew V):Below X.1.size X V:=⟨h.os,h.tape,h.output,h.size,h.block⟩
theorem ZX{ep:Int}{m:MS}{r:RM}(w:c.ok)(z:c.fits)(g:MOk c ep m)(h:zdV c m r)(M:xG m.TL m.QL r.td)(l:xB c m TL'):xG TL' m.QL r.settled.td:=by
 obtain⟨Bs,I,C,j⟩:=l.get g.nt;have f:∀(k:Jk) (x:Tsk),zE m.TL k=E x->k=x.key/\x.s∈zn m.L/\(x.rl=true->yU c Bs m.L m.now x.s=true)/\(x.rl=false->yT c m.L m.now x.s=true):=fun k x d=>by
  have l:=zA d;exact⟨(g.td _ l).key,(g.td _ l).mem,fun e=>zeA w z g h.inv I l e,fun e=>zez w z g h.inv l e⟩
 have i:∀k,k∈zk TL'↔∃x,zE TL' k=E x:=fun k=>by
  constructor
  ·intro A;obtain⟨p,D,rfl⟩:=List.mem_map.1 A;exact⟨p.2,xt C D⟩
  ·rintro⟨x,d⟩;exact List.mem_map.2 ⟨_,zA d,rfl⟩
 refine zdJ w z g M h.now l (fun kind s B t=>?_) (fun k A=>?_)
 ·rw[i];rcases B with rfl|rfl
  ·have e:vD r 1 s (xd r.c r.nu)=KL r s (xd r.c r.nu):=(by unfold vD;rw[if_pos rfl]);rw[e,zgm g h I t];constructor
   ·rintro⟨a,b⟩;cases d:zE m.TL ⟨1,s⟩with
    |some x=>exact⟨x,(j _ _).2 (.inl d)⟩
    |none=>exact⟨_,(j _ _).2 (.inr ⟨d,s,a,.inl ⟨b,rfl,rfl⟩⟩)⟩
   ·rintro⟨x,d⟩;rcases(j _ _).1 d with d|⟨-,s',a,⟨b,e,-⟩|⟨b,e,-⟩⟩
    ·obtain⟨n,u,G,-⟩:=f _ _ d;unfold Tsk.key Tsk.kd at n;injection n with v H;rw[H];refine⟨u,G ?_⟩;cases F:x.rl with
     |true=>rfl
     |false=>rw[F]at v;simp at v
    ·injection e with y o;rw[o];exact⟨a,b⟩
    ·injection e with y o;omega
  ·have e:vD r 2 s (xd r.c r.nu)=KM r s (xd r.c r.nu):=(by unfold vD;rw[if_neg (by decide)]);rw[e,zgn w g h t];constructor
   ·rintro⟨a,b⟩;cases d:zE m.TL ⟨2,s⟩with
    |some x=>exact⟨x,(j _ _).2 (.inl d)⟩
    |none=>exact⟨_,(j _ _).2 (.inr ⟨d,s,a,.inr ⟨b,rfl,rfl⟩⟩)⟩
   ·rintro⟨x,d⟩;rcases(j _ _).1 d with d|⟨-,s',a,⟨b,e,-⟩|⟨b,e,-⟩⟩
    ·obtain⟨n,u,-,G⟩:=f _ _ d;unfold Tsk.key Tsk.kd at n;injection n with v H;rw[H];refine⟨u,G ?_⟩;cases F:x.rl with
     |false=>rfl
     |true=>rw[F]at v;simp at v
    ·injection e with y o;omega
    ·injection e with y o;rw[o];exact⟨a,b⟩
 ·obtain⟨x,d⟩:=(i k).1 A;have t:k.s∈zn m.L:=by
   rcases(j _ _).1 d with d|⟨-,s',a,⟨b,e,-⟩|⟨b,e,-⟩⟩
   ·obtain⟨n,u,-⟩:=f _ _ d;rw[n];exact u
   ·rw[e];exact a
   ·rw[e];exact a
  have q:=g.seg.inr _ (zW t);exact h.seg ⟨q.2.1,q.2.2.1⟩ t
def zgL(n:Int):Value:=.string ⟨(Lib.itoa n).toArray⟩
structure Yg(w:World)(p g:Nat)(ws:List Int)(k:Nat):Prop where
 head:∃ad:Option Addr,w.1[p]?=E (.cells #[.slice ad (ws.length-k) (ws.length-k),.bool false] 278 (0,0))/\(k<ws.length->ad=E (U g k))
 row:w.1[g]?=E (.cells (ws.map zgL).toArray 9 (0,0))
theorem Yg.word(h:Yg w p g ws k){j:Nat}(hn:ws[j]?=E n):w.cell? (U g j)=E (zgL n):=by
 rw[xR h.row];simp[hn]
theorem ziT(hn:xz n)(w:World):Calls prog 243 #[zgL n,I 10,I 64] w (Rz w (.tuple #[I n,.nilIface])):=by
 have b:=Lib.itoa_length_le n hn.1 hn.2;refine(Any.strconv_ParseInt_10_at64_ok Tryz.layPI ⟨(Lib.itoa n).toArray⟩ (by simp[ByteArray.size];omega) n (by simpa using zlC hn.1 hn.2) w).mono ?_;rintro e w' ⟨a,rfl|⟨t,rfl⟩⟩
 ·exact⟨a,Below.refl _ _⟩
 ·exact⟨a,Lib.bytesWorld_below _ _ _⟩
theorem zY(h:Yg w p g ws k)(hn:ws[k]?=E n)(G:xz n)(a b:Int)(S:a<=n)(T:n<=b):
  Calls prog 200 #[(O p),I a,I b] w fun e w'=>e=.returned (I n)/\Yg w' p g ws (k+1)/\zi (fun q=>q=p) w w':=by
 have L:k<ws.length:=(List.getElem?_eq_some_iff.1 hn).1;have Y:=h.word hn;obtain⟨ad,c,r⟩:=h.head;obtain rfl:=r L;obtain⟨B,-⟩:=zc c;have y:=zd c;have R:=zd h.row;obtain⟨N,D⟩:∃N,ws.length-k=N:=⟨_,rfl⟩;rw[D]at B;have F:1<=N:=by omega
 have A:=fun W=>ze (ziT G W);have H:=ze h;have o:=ze c;clear h c r;go_enter func200,ntmps200;go_wp2_with fail;refine(ud (A _)).mono ?_;rintro e V ⟨rfl,s⟩;have v0:=(s.cell (p:=(U p 0)) y).trans B;have t:=(s.block _ y).trans (ud o);have vf:=fun j=>zw t j;obtain⟨-,Z,-⟩:=zc t;have M:=Nat.lt_of_lt_of_le y s.size;have C:=ze s;have z:=ze t;have P:decide (n<a)=false:=by simp;omega
 have Q:decide (b<n)=false:=by simp;omega
 clear s t A;go_wp2_with fail;all_goals go_ret
 all_goals
  have l:∀v,zi (fun q=>q=p) w (V.setCell (U p 0) v):=fun v=>(zi.of_below (f:=fun q=>q=p) (ud C)).trans (zi.setCell (f:=fun q=>q=p) (zi.refl _ _) (p:=(U p 0)) (fun _=>rfl) v) (fun _ _ e=>e)
  have x:g≠p:=fun e=>by
   have m:=(ud H).row;rw[e,ud o]at m;injection m with m;injection m with _ m;exact absurd m (by decide)
  have d:∀v,(V.setCell (U p 0) v).1[g]?=E (.cells (ws.map zgL).toArray 9 (0,0)):=fun v=>(l v).heap (ud H).row x
  first
   |(have u:ws.length-(k+1)=0:=by omega
     exact⟨rfl,⟨⟨_,by rw[u];exact xD (i:=0) (ud z) _,fun X=>by omega⟩,d _⟩,l _⟩)
   |(have u:ws.length-(k+1)=N-1:=by omega
     exact⟨rfl,⟨⟨_,by rw[u];exact xD (i:=0) (ud z) _,fun _=>rfl⟩,d _⟩,l _⟩)
theorem zfs(c:Cf)(s:Sg)(nu:List Nm)(g:∀x∈nu,x.ok)(p:nu.length<=1000000000):IsC (fun x=>zG c s.t x=s) nu (qB c s nu):=by
 have h:∀k,k<=nu.length->IsC (fun x=>zG c s.t x=s) (nu.take k) (qB c s (nu.take k)):=by
  intro k;induction k with
  |zero=>intro _;simp only[List.take_zero];exact IsC.zero (fun x f=>by cases f)
  |succ k d=>
   intro n;have a:k<nu.length:=n;have d:=d (Nat.le_of_lt a);have e:nu[k]?=E nu[k]:=List.getElem?_eq_getElem a;rw[zcM c s nu k _ e,List.take_succ_eq_append_getElem a];unfold yA;by_cases b:zG c s.t nu[k]=s
   ·rw[if_pos b];have j:=d.add (x:=nu[k]) b;have m:=zaU (c:=c) (s:=s) (nu:=nu.take k) (fun x f=>g x (List.mem_of_mem_take f));have i:znq (qB c s (nu.take k)) nu[k].val=zfj (qB c s (nu.take k)) nu[k].val:=by
     unfold znq zfj;have l:=g _ (List.getElem_mem a);unfold Nm.ok at l;have o:(nu.take k).length<=1000000000:=(by rw[List.length_take];omega);rw[show wrap64 ((qB c s (nu.take k)).sum+nu[k].val)=(qB c s (nu.take k)).sum+nu[k].val by unfold wrap64;omega]
    rw[<-i];exact j
   ·rw[if_neg b];exact d.skip b
 have:=h nu.length (Nat.le_refl _);simpa using this
theorem Yw{P Q R:Nm->Prop}[DecidablePred P][DecidablePred Q][DecidablePred R]:∀{ns:List Nm},(∀x∈ns,P x->Q x\/R x)->yj P ns<=yj Q ns+yj R ns
 |[],_=>by simp[yj]
 |x::ns,h=>by
  have c:=Yw (ns:=ns) (fun y b=>h y (by simp[b]));have a:=h x (by simp);simp only[yj];by_cases p:P x
  ·rcases a p with q|q
   ·rw[if_pos p,if_pos q];split<;>omega
   ·rw[if_pos p,if_pos q];split<;>omega
  ·rw[if_neg p];repeat' split;all_goals omega
theorem Jy{P:Nm->Prop}[DecidablePred P]:∀{ns:List Nm},(∀x∈ns,P x)->yj P ns=ns.length
 |[],_=>rfl
 |x::ns,h=>by
  have b:=Jy (P:=P) (ns:=ns) (fun y a=>h y (by simp[a]));simp only[yj,List.length_cons];rw[if_pos (h x (by simp)),b];omega
theorem zia{ns:List Nm}(h:∀T:Nat,yj (fun x=>x.tm=(T:Int)) ns<=400)(a:∀x∈ns,0<=x.tm):∀N:Nat,yj (fun x=>x.tm<(N:Int)) ns<=400*N
 |0=>by
  rw[qF.2 (fun x c e=>by have:=a x c;omega)];omega
 |N+1=>by
  have g:=zia h a N;have d:=h N;have f:yj (fun x=>x.tm<((N+1:Nat):Int)) ns<=yj (fun x=>x.tm<(N:Int)) ns+yj (fun x=>x.tm=(N:Int)) ns:=Yw (fun x _ e=>by
   by_cases b:x.tm=(N:Int)
   ·exact .inr b
   ·left;omega)
  omega
theorem zeO(m:c.ok){l:List Sg}(hn:l.Nodup)(h:∀k∈l,inR c k/\QK k):l.length<=2000020:=by
 have j:=jW (l.map zoN) (List.range 2000020) ?_ ?_
 ·simpa using j
 ·rw[List.nodup_iff_pairwise_ne,List.pairwise_map];refine(List.nodup_iff_pairwise_ne.1 hn).imp_of_mem ?_;intro a b f g d e;exact d (zeS (h a f).1 (h a f).2 (h b g).1 (h b g).2 e)
 ·intro x n;obtain⟨s,i,rfl⟩:=List.mem_map.1 n;exact List.mem_range.2 (zjx m (h s i).1 (h s i).2)
structure qV(c:Cf)(ep:Int)(m:MS)(r:RM):Prop where
 ok:c.ok
 fits:c.fits
 sok:SOk c ep m r.nu.length
 tie:zdV c m r
 tsk:xG m.TL m.QL r.td
 slot:∀q∈m.QL,0<=q.2.slot
 picks:r.picks=m.num
 epo:r.epoch=ep
 ghas:∀s∈zk m.Gl,∃x∈r.nu,zG c s.t x=s
 ng:r.gone.Nodup
 np:r.pub.Nodup
 full:∀T:Nat,yj (fun x=>x.tm=(T:Int)) r.nu<=400
 comp:Xm c m
section
variable {c:Cf} {ep:Int} {m:MS} {r:RM}
theorem qV.nu(h:qV c ep m r):∀x∈r.nu,x.ok:=fun x a=>by
 have b:=h.tie.inv.tm x a;have d:=h.sok.ok.now;unfold Nm.ok;omega
theorem qV.len(h:qV c ep m r):r.nu.length<=100000000:=by
 have b:=zia h.full (fun x a=>(h.nu x a).2.2.1) 100001;rw[Jy (fun x a=>by have d:=h.nu x a;unfold Nm.ok at d;omega)]at b;omega
theorem xG.len(h:xG TL QL l):l.length=TL.length:=by
 obtain⟨ts,a,-,rfl⟩:=h;rw[List.length_map,a.length_eq,List.length_map]
theorem qV.inGl(h:qV c ep m r):s∈r.gone↔s∈zk m.Gl:=by
 have:=h.tie.gone s;unfold QC at this;simpa using this
theorem qV.inPub(h:qV c ep m r):s∈r.pub↔Pub m.L s\/(0<=s.t/\s∈zk m.Gl):=by
 have:=h.tie.pub s;unfold QC at this;simpa using this
theorem qV.segs(h:qV c ep m r)(s:Sg):s∈xd r.c r.nu↔s∈zn m.L\/s∈zk m.Gl:=by
 constructor
 ·intro b;exact(h.tie.there b).2.2
 ·rintro(b|b)
  ·have a:=h.sok.ok.mem_inR b;exact h.tie.seg ⟨a.2.1,a.2.2.1⟩ b
  ·have a:=(h.sok.gin s b).1;obtain⟨x,d,e⟩:=h.ghas s b;rw[h.tie.hc,jE];exact⟨a.2.1,a.2.2.1,x,d,e.symm⟩
theorem qV.perm(h:qV c ep m r):(xd r.c r.nu).Perm (zn m.L++zk m.Gl):=by
 refine(List.perm_ext_iff_of_nodup (Y6 _ _) ?_).2 (fun s=>by rw[h.segs,List.mem_append]);rw[List.nodup_append];refine⟨h.sok.ok.seg.nl,h.sok.ok.seg.ng,fun a d b f e=>?_⟩;subst e;exact h.sok.ok.seg.disj _ (zW d) f
theorem qV.sum(h:qV c ep m r)(f:Sg->Int)(g:SV->Int)(e:Int)(d:∀p∈m.L,f p.1=g p.2)(i:∀s∈zk m.Gl,f s=e):qJ ((xd r.c r.nu).map f)=qJ (m.L.map (fun p=>g p.2))+e*m.Gl.length:=by
 rw[vK (h.perm.map f),List.map_append,Va];congr 1
 ·unfold zn;rw[List.map_map];exact congrArg qJ (List.map_congr_left (fun p j=>d p j))
 ·have:∀l:List Sg,(∀s∈l,f s=e)->qJ (l.map f)=e*l.length:=by
   intro l;induction l with
   |nil=>intro _;simp[qJ]
   |cons a l n=>
    intro b;rw[List.map_cons,qJ,n (fun s k=>b s (by simp[k])),b a (by simp),List.length_cons]
    push_cast;rw[Int.mul_add];omega
  rw[this _ i];unfold zk;rw[List.length_map]
theorem qV.raw(h:qV c ep m r){p:Sg×SV}(e:p∈m.L)(a:p.2.st≠2):qB r.c p.1 r.nu=p.2.cl:=by
 have b:=zfs r.c p.1 r.nu h.nu (by have:=h.len;omega);have d:=h.tie.inv.cell p e a;rw[h.tie.hc]at b ⊢;exact b.one d
theorem qV.used(h:qV c ep m r):r.used=zV m.L:=by
 unfold RM.used zne;rw[Jn (zmB r.c r.nu r.gone),h.sum _ kf 0 (fun p a=>?_) (fun s i=>?_)]
 ·unfold zV;omega
 ·have d:¬p.1∈r.gone:=fun e=>h.sok.ok.seg.disj p a (h.inGl.1 e);unfold zmB kf;rw[if_neg d];by_cases f:p.1.t= -1
  ·have g:=(h.sok.ok.seg.raw p a f).1;rw[if_pos f,if_pos g,h.raw a (by omega)]
  ·have b:=h.sok.ok.seg.inr p a;have g:=h.sok.ok.seg.tier p a (by have:=b.2.1;omega);rw[if_neg f,if_neg (by omega)]
 ·unfold zmB;rw[if_pos (h.inGl.2 i)]
theorem qV.tight(h:qV c ep m r):r.tight=kW (zV m.L) c.qu:=by
 unfold RM.tight kW;rw[h.used,h.tie.hc]
theorem qV.query(h:qV c ep m r){t sr wn:Int}(j:¬(t< -1\/r.c.n<=t\/sr<0\/4<=sr\/wn<0\/100000<wn)):r.query t sr wn=qY c m.now m.Gl m.L t sr wn:=by
 have g:r.c.end ⟨t,sr,wn⟩=(wn+1)*c.wh t:=by rw[h.tie.hc];rfl
 have o:r.c.la=c.la:=by rw[h.tie.hc]
 by_cases f:r.now-r.c.la<r.c.end ⟨t,sr,wn⟩
 ·rw[zgj j f];unfold qY;rw[g,o,h.tie.now]at f;rw[if_pos f];rfl
 ·have p:=f;rw[g,o,h.tie.now]at p;have w:=zaZ (c:=r.c) (nu:=r.nu) (s:=⟨t,sr,wn⟩) (by show-1<=t;omega) (by show t<r.c.n;omega);unfold qY;rw[if_neg p];by_cases q:(⟨t,sr,wn⟩:Sg)∈xd r.c r.nu
  ·have d:¬(qB r.c ⟨t,sr,wn⟩ r.nu).cnt=0:=fun e=>w.1 e q;by_cases k:(⟨t,sr,wn⟩:Sg)∈zk m.Gl
   ·rw[zgi j f d (h.inGl.2 k)];unfold vZ;rw[zmi k];rfl
   ·have y:=((h.segs _).1 q).resolve_right k;have i:¬(⟨t,sr,wn⟩:Sg)∈r.gone:=fun e=>k (h.inGl.1 e);have a:=zW y;rw[YJ k];have u:(⟨t,sr,wn⟩:Sg)∈r.pub↔(stL m.L ⟨t,sr,wn⟩).st=3:=by
     rw[h.inPub];constructor
     ·rintro(⟨v,hv,e⟩|⟨-,e⟩)
      ·rw[jV h.sok.ok.seg.nl a hv];exact e
      ·exact absurd e k
     ·intro e;exact .inl ⟨_,a,e⟩
    by_cases z:t= -1
    ·have b:=(h.sok.ok.seg.raw _ a z).1;dsimp only at b;have l:=h.raw a (by dsimp only;omega);dsimp only at l;rw[zeH j f d i (by omega),l];unfold vZ;rw[b];rfl
    ·rcases h.sok.ok.seg.tier _ a (by show 0<=t;omega)with b|b
     ·dsimp only at b;rw[zgk j f d i ⟨by omega,fun e=>by have:=u.1 e;omega⟩];unfold vZ;rw[b];rfl
     ·dsimp only at b;have l:=h.raw a (by dsimp only;omega);dsimp only at l;rw[zeH j f d i (fun e=>e.2 (u.2 b)),l];unfold vZ;rw[b];rfl
  ·rw[zdx j f (w.2 q)];have b:(⟨t,sr,wn⟩:Sg)∉zk m.Gl:=fun e=>q ((h.segs _).2 (.inr e));have x:(⟨t,sr,wn⟩:Sg)∉zn m.L:=fun e=>q ((h.segs _).2 (.inl e));rw[YJ b];have:stL m.L ⟨t,sr,wn⟩=⟨0,qA⟩:=(by unfold stL;rw[ye.2 x];rfl);rw[this];rfl
end
def qM(c:Cf)(m:MS)(sr tm val:Int):MS×Int:=
 if sr<0\/4<=sr then(m,2)
 else if tm<0\/m.now<tm then(m,5)
 else if tm<m.now-c.la then(m,3)
 else if c.qu<zV m.L+(1+2*yn c m.L ⟨sr,tm,val⟩ c.n)then(m,4)
 else({m with L:=yv c m.L ⟨sr,tm,val⟩},0)
theorem VP{now:Int}:∀(ys:List Sg) {T:List (Jk×Tsk)},(∀s∈ys,(⟨1,s⟩:Jk)∈zk T)->ys.foldl (yp now) T=T
 |[],T,_=>rfl
 |y::ys,T,h=>by
  have e:yp now T y=T:=by
   unfold yp;cases a:zE T ⟨1,y⟩with
   |some x=>rfl
   |none=>exact absurd (h y (by simp)) (xy.1 a)
  rw[List.foldl_cons,e];exact VP ys (fun s b=>h s (by simp[b]))
theorem VO{now:Int}:∀(ys:List Sg) {T:List (Jk×Tsk)},(∀s∈ys,(⟨2,s⟩:Jk)∈zk T)->ys.foldl (yS now) T=T
 |[],T,_=>rfl
 |y::ys,T,h=>by
  have e:yS now T y=T:=by
   unfold yS;cases a:zE T ⟨2,y⟩with
   |some x=>rfl
   |none=>exact absurd (h y (by simp)) (xy.1 a)
  rw[List.foldl_cons,e];exact VO ys (fun s b=>h s (by simp[b]))
section
variable {c:Cf} {ep:Int} {m:MS} {r:RM}
theorem Xm.posted(h:Xm c m):xB c m m.TL:=by
 obtain⟨Bs,e,b,d⟩:=h;refine⟨⟨Bs,(zn m.L).filter (fun s=>yU c Bs m.L m.now s),(zn m.L).filter (fun s=>yT c m.L m.now s),e,fun s=>List.mem_filter,fun s=>List.mem_filter,?_⟩⟩;rw[VP _ (fun s a=>b s (List.mem_filter.1 a).1 (List.mem_filter.1 a).2),VO _ (fun s a=>d s (List.mem_filter.1 a).1 (List.mem_filter.1 a).2)]
theorem zbx(l:List Sg):zk (l.map (fun s=>(s,())))=l:=by
 unfold zk;rw[List.map_map];simp[Function.comp_def]
theorem Xm.added(l:c.ok)(S:c.fits){x:Nm}(C:MOk c ep m)(q:MOk c ep {m with L:=yv c m.L x})(h:Xm c m)(H:m.now-c.la<=x.tm):Xm c {m with L:=yv c m.L x}:=by
 obtain⟨Bs,Q,N,O⟩:=h;have T:=l.n1;have r:(zn (yv c m.L x)).Nodup:=q.seg.nl;have f:∀s,s∈zn (yv c m.L x)->c.clo m.now s->s∈zn m.L/\stL (yv c m.L x) s=stL m.L s:=fun s n a=>by
  have z:=zW n;rcases XP z with e|⟨e,-⟩|⟨j,Y,e,-⟩
  ·exfalso;injection e with A M;refine jY l (t:= -1) (x:=x) (by omega) (by omega) H ?_;rw[show zG c (-1) x=s from A.symm];exact a
  ·exact⟨Zw e,jV C.seg.nl e (zW (Zw e))⟩
  ·exfalso;injection e with A M;refine jY l (t:=(j:Int)) (x:=x) (by omega) (by omega) H ?_;rw[<-A];exact a
 have I:∀k,k∈zn m.L->(stL m.L k).st=2->k∈zn (yv c m.L x)/\(stL (yv c m.L x) k).st=2:=fun k g b=>by
  have z:=zW g;have F:k≠xr c x:=fun e=>by
   have:=(C.seg.raw _ z (by rw[e];rfl)).1;dsimp only at this;omega
  have i:=Jt (c:=c) (x:=x) z F;have p:=Zw i;refine⟨p,?_⟩;rw[jV r (zW p) i];exact b
 refine⟨((((zn (yv c m.L x)).filter (fun k=>decide ((stL (yv c m.L x) k).st=2))).flatMap (yw c)).map (fun s=>(s,()))),fun y=>?_,fun s n d=>?_,fun s n d=>?_⟩
 ·rw[zbx,List.mem_flatMap];constructor
  ·rintro⟨k,g,v⟩;obtain⟨i,B⟩:=List.mem_filter.1 g;exact⟨k,i,of_decide_eq_true B,v⟩
  ·rintro⟨k,i,B,v⟩;exact⟨k,List.mem_filter.2 ⟨i,decide_eq_true B⟩,v⟩
 ·obtain⟨a,b⟩:=zeK d;obtain⟨g,w⟩:=f s n a;refine N s g ?_;have D:s∉zk Bs:=fun R=>by
   obtain⟨k,U,k2,V⟩:=(Q s).1 R;obtain⟨W,X⟩:=I k U k2;unfold yU at d;cases G:zE ((((zn (yv c m.L x)).filter (fun k=>decide ((stL (yv c m.L x) k).st=2))).flatMap (yw c)).map (fun s=>(s,()))) s with
   |some u=>rw[G]at d;simp at d
   |none=>
    refine xy.1 G ?_;rw[zbx];exact List.mem_flatMap.2 ⟨k,List.mem_filter.2 ⟨W,decide_eq_true X⟩,V⟩
  unfold yU;dsimp only at w b;rw[w]at b;rw[xy.2 D,b];unfold Cf.clo at a;simpa using a
 ·obtain⟨a,b⟩:=zeJ l S q.seg n d;obtain⟨g,w⟩:=f s n a;refine O s g ?_;unfold yT at d ⊢;simp only[Bool.and_eq_true]at d ⊢;rw[w]at d;refine⟨d.1,?_⟩;have o:=C.mem_inR g;rw[XZ l o];have P:=(XZ l o).1 d.2;exact fun y v e=>P y v (I y (zav e) e).2
theorem zea{α:Type}[DecidableEq α](f:Nm->α)(ns:List Nm):∀ks:List α,yj (fun x=>f x∈ks) ns<=qJ (ks.map (fun k=>yj (fun x=>f x=k) ns))
 |[]=>by
  rw[qF.2 (fun x _ h=>by cases h)];simp[qJ]
 |k::ks=>by
  have a:=zea f ns ks;rw[List.map_cons,qJ];refine Int.le_trans (Yw (Q:=fun x=>f x=k) (R:=fun x=>f x∈ks) (fun x _ h=>by simpa using h)) ?_;omega
theorem zeX:∀(l:List Int),(∀x∈l,0<=x)->0<=qJ l
 |[],_=>by simp[qJ]
 |a::l,h=>by
  have c:=h a (by simp);have d:=zeX l (fun x b=>h x (by simp[b]));simp only[qJ];omega
theorem zkW(d:c.ok)(a:MOk c ep m){ns:List Nm}(l:X6 c m ns){T:Int}(y:m.now-c.la<=T):yj (fun x=>x.tm=T) ns<=400:=by
 have q:=d.n1;have o:yj (fun x=>x.tm=T) ns<=yj (fun x=>xr c x∈zn m.L) ns+yj (fun _=>False) ns:=Yw (fun x i e=> .inl (by
  rcases l.keys x i (-1) (by omega) (by omega)with h|h
  ·exact h
  ·exact absurd h (jX d a (x:=x) (by omega) (by omega) (by omega))))
 rw[show yj (fun _=>False) ns=0 from qF.2 (fun _ _ h=>h)]at o;have r:=zea (xr c) ns (zn m.L);have s:qJ ((zn m.L).map (fun k=>yj (fun x=>xr c x=k) ns))=Xu m.L:=by
  unfold zn Xu;rw[List.map_map];refine congrArg qJ (List.map_congr_left (fun p b=>?_));dsimp only[Function.comp];unfold kj;by_cases g:p.1.t= -1
  ·have n:=(a.seg.raw p b g).1;rw[if_pos n,(l.cell p b (by omega)).cnt];refine(vn (fun x _=>?_)).1;rw[g];exact Iff.rfl
  ·have f:=a.seg.inr p b;have n:=a.seg.tier p b (by have:=f.2.1;omega);rw[if_neg (by omega)];exact qF.2 (fun x _ e=>g (by rw[<-e];rfl))
 have u:=Jq m.L a.seg.sts;have v:=a.seg.used;have w:=d.qu;have j:∀k,0<=xc m.L k:=fun k=>by
  unfold xc;refine zeX _ (fun x i=>?_);obtain⟨p,-,rfl⟩:=List.mem_map.1 i;unfold zgQ;split<;>omega
 have:=j 2;have:=j 3;omega
theorem qV.cost(h:qV c ep m r){x:Nm}(g:m.now-c.la<=x.tm):∀k:Nat,k<=c.n->Zp r (xd r.c r.nu) x k=zV m.L+1+2*yn c m.L x k
 |0,_=>by
  have:=h.used;simp[Zp,yn,this]
 |k+1,j=>by
  have i:=h.cost g k (by omega);have f:zG c (k:Int) x∉zk m.Gl:=jX h.ok h.sok.ok g (by omega) (by omega);have b:=h.tie.hc;by_cases d:zG r.c (k:Int) x∈xd r.c r.nu
  ·have a:zG c (k:Int) x∈zn m.L:=by
    have:=(h.segs _).1 d;rw[b]at this;exact this.resolve_right f
   rw[znM d,i];simp[yn,a]
  ·have a:¬zG c (k:Int) x∈zn m.L:=fun e=>d ((h.segs _).2 (.inl (by rw[b];exact e)));rw[zkH d,i];simp only[yn,if_neg a];omega
theorem qV.ingest(h:qV c ep m r)(sr tm val:Int)(t: -2147483648<=val/\val<=2147483647):(r.ingest sr tm val).2=(qM c m sr tm val).2/\qV c ep (qM c m sr tm val).1 (r.ingest sr tm val).1:=by
 have a:=h.tie.now;have b:=h.tie.hc;by_cases f:sr<0\/4<=sr
 ·rw[zfH f,show qM c m sr tm val=(m,2)from by unfold qM;rw[if_pos f]]
  exact⟨rfl,h⟩
 by_cases k:tm<0\/m.now<tm
 ·rw[zdc f (by rw[a];exact k),show qM c m sr tm val=(m,5)from by unfold qM;rw[if_neg f,if_pos k]]
  exact⟨rfl,h⟩
 by_cases o:tm<m.now-c.la
 ·rw[zdb f (by rw[a];exact k) (by rw[a,b];exact o),show qM c m sr tm val=(m,3)from by unfold qM;rw[if_neg f,if_neg k,if_pos o]]
  exact⟨rfl,h⟩
 have w:m.now-c.la<=(⟨sr,tm,val⟩:Nm).tm:=by show m.now-c.la<=tm;omega
 have g:=h.cost w c.n (Nat.le_refl _);by_cases B:c.qu<zV m.L+(1+2*yn c m.L ⟨sr,tm,val⟩ c.n)
 ·rw[zda f (by rw[a];exact k) (by rw[a,b];exact o) (by rw[b]at g ⊢;rw[g];omega),show qM c m sr tm val=(m,4)from by unfold qM;rw[if_neg f,if_neg k,if_neg o,if_pos B]]
  exact⟨rfl,h⟩
 rw[zie f (by rw[a];exact k) (by rw[a,b];exact o) (by rw[b]at g ⊢;rw[g];omega),show qM c m sr tm val=({m with L:=yv c m.L ⟨sr,tm,val⟩},0)from by unfold qM;rw[if_neg f,if_neg k,if_neg o,if_neg B]]
 have A:XK c ep m r.nu {m with L:=yv c m.L ⟨sr,tm,val⟩} (r.nu++[⟨sr,tm,val⟩]):=.added m r.nu ⟨sr,tm,val⟩ ⟨by show 0<=sr;omega,by show sr<4;omega⟩ ⟨by show 0<=tm;omega,by show tm<=m.now;omega⟩ w t (by omega);have i:=A.ok h.ok h.fits h.sok;have q:=h.tie.inv.act h.ok h.fits h.sok (by have:=h.len;omega) A;have p:=h.comp.added h.ok h.fits h.sok.ok i.ok w;have y:=h.sok.ok.seg;have d:zdV c {m with L:=yv c m.L ⟨sr,tm,val⟩} {r with nu:=r.nu++[⟨sr,tm,val⟩]}:=by
  refine⟨b,a,h.tie.gone,fun s=>?_,q⟩;rw[h.tie.pub s];refine or_congr ⟨fun⟨v,hv,l⟩=>⟨v,Jt hv (fun e=>?_),l⟩,fun⟨v,hv,l⟩=>?_⟩ Iff.rfl
  ·have D:=(y.raw _ hv (by rw[show s=xr c ⟨sr,tm,val⟩from e];rfl)).1;dsimp only at D;omega
  ·rcases XP hv with e|⟨e,-⟩|⟨j,H,e,-⟩
   ·injection e with C u;rw[u]at l;simp at l
   ·exact⟨v,e,l⟩
   ·injection e with C u;rw[u]at l;simp at l
 have z:=ZX h.ok h.fits i.ok d h.tsk p.posted;refine⟨rfl,⟨h.ok,h.fits,i,⟨d.hc,d.now,d.gone,d.pub,d.inv⟩,z,h.slot,h.picks,h.epo,fun s F=>?_,h.ng,h.np,fun T=>?_,p⟩⟩
 ·obtain⟨x,G,e⟩:=h.ghas s F;exact⟨x,List.mem_append_left _ G,e⟩
 ·show yj (fun x=>x.tm=(T:Int)) (r.nu++[⟨sr,tm,val⟩])<=400;by_cases e:tm=(T:Int)
  ·exact zkW h.ok i.ok q (by show m.now-c.la<=_;omega)
  ·rw[(Zo _ _).1,if_neg e];have:=h.full T;omega
end
def ZV(x:SX):List Int:=zko x++(if Xs x.2.st then zmJ x else[])
structure rdX(c:Cf)(x:SX):Prop where
 t: -1<=x.1.t/\x.1.t<c.n
 sr:0<=x.1.sr/\x.1.sr<4
 wn:0<=x.1.wn/\x.1.wn<=100000
 st:1<=x.2.st/\x.2.st<=4
 cel:Xs x.2.st=true->1<=x.2.cl.cnt/\x.2.cl.cnt<=2147483647/\xz x.2.cl.sum/\(-2147483648<=x.2.cl.mn/\x.2.cl.mn<=2147483647)/\(-2147483648<=x.2.cl.mx/\x.2.cl.mx<=2147483647)
 no:Xs x.2.st=false->x.2.cl=qA
 raw:x.2.st≠4->(x.2.st=1↔x.1.t= -1)
theorem Yy(a:Nat)(W:World):(Instr.fieldAt 148 (O a) 2).run prog W=.ok (.pointer (E (U a 4))) W:=by kernel_rfl
theorem Yg.kept{f:Nat->Prop}{w':World}(h:Yg w p g ws k)(a:zi f w w')(b:¬f p)(c:¬f g):Yg w' p g ws k:=by
 obtain⟨ad,e,d⟩:=h.head;exact⟨⟨ad,a.heap e b,d⟩,a.heap h.row c⟩
structure ExpF(n:Int)(TL:List (Jk×Tsk))(QL:List (Tok×Lse))(T1:List (Jk×Tsk))(Q1:List (Tok×Lse))(D:List Jk):Prop where
 tl:T1=TL.map (fun p=>if p.1∈D then(p.1,p.2.failed n)else p)
 sub:∀q∈Q1,q∈QL
 out:∀q∈QL,q∈Q1\/(q.2.job∈D/\q.2.til<=n)
 inn:∀q∈Q1,q.2.job∉D
 has:∀k∈D,∃q∈QL,q.2.job=k
 nq:(zk Q1).Nodup
 jobs:(Q1.map (fun q=>q.2.job)).Nodup
theorem zhT(nt:(zk TL).Nodup)(nq:(zk QL).Nodup)(jobs:(QL.map (fun q=>q.2.job)).Nodup)(h:YQ n TL QL T1 Q1):∃D,ExpF n TL QL T1 Q1 D:=by
 induction h with
 |nil=>exact⟨[],by simp,fun q h=>h,fun q h=> .inl h,fun q _=>by simp,fun k l=>(by cases l),nq,jobs⟩
 | @step T1 Q1 t g x _ y o F G=>
  obtain⟨D,z,i2,i3,i4,i5,A,B⟩:=G;have c:=zA y;have d:g.job∉D:=i4 _ c;have v:zE T1 g.job=E x:=F;have f:=zA v;have w:(g.job,x)∈TL:=by
   rw[z]at f;obtain⟨p,s,e⟩:=List.mem_map.1 f;by_cases a:p.1∈D
   ·rw[if_pos a]at e;injection e with C H;exact absurd (C▸a) d
   ·rw[if_neg a]at e;rw[<-e];exact s
  refine⟨g.job::D,?_,fun q i=>i2 q (zS.1 i).1,fun q i=>?_,fun q i=>?_,fun k l=>?_,qa A,ZQ B _⟩
  ·show qj T1 g.job (x.failed n)=_;unfold qj;rw[if_pos (show g.job∈zk T1 from List.mem_map.2 ⟨_,f,rfl⟩),z,List.map_map];refine List.map_congr_left (fun p s=>?_);dsimp only[Function.comp];by_cases a:p.1∈D
   ·have r:¬p.1=g.job:=fun e=>d (e▸a);simp[a,r]
   ·by_cases e:p.1=g.job
    ·have b:zE TL p.1=E p.2:=xt nt s;have m:zE TL g.job=E x:=xt nt w;rw[e,m]at b;injection b with b;have u:p=(g.job,x):=Prod.ext e b.symm;subst u;simp[d]
    ·simp[a,e]
  ·rcases i3 q i with b|⟨b,m⟩
   ·by_cases e:q.1=t
    ·have j:zE Q1 q.1=E q.2:=xt A b;rw[e,y]at j;injection j with j;exact .inr ⟨by rw[<-j];simp,by rw[<-j];exact o⟩
    ·exact .inl (zS.2 ⟨b,e⟩)
   ·exact .inr ⟨List.mem_cons_of_mem _ b,m⟩
  ·intro a;rcases List.mem_cons.1 a with e|a
   ·exact Zv B c i e
   ·exact i4 q (zS.1 i).1 a
  ·rcases List.mem_cons.1 l with rfl|l
   ·exact⟨_,i2 _ c,rfl⟩
   ·exact i5 k l
theorem xG.expired{D:List Jk}(C:∀p∈TL,p.1=p.2.key)(j:∀q∈QL,0<=q.2.slot)(h:xG TL QL l)(f:ExpF n TL QL T1 Q1 D)(G:∀p∈Q1,n<p.2.til):xG T1 Q1 (l.map (zkU n)):=by
 obtain⟨ts,t,H,rfl⟩:=h;refine⟨ts.map (fun z=>if z.key∈D then z.failed n else z),?_,?_,?_⟩
 ·have e:T1.map (·.2)=(TL.map (·.2)).map (fun z=>if z.key∈D then z.failed n else z):=by
   rw[f.tl,List.map_map,List.map_map];refine List.map_congr_left (fun p F=>?_);dsimp only[Function.comp];rw[<-C p F];split<;>rfl
  rw[e];exact t.map _
 ·rw[List.pairwise_map];refine H.imp (fun{a b} h=>?_);have y:∀z:Tsk,(if z.key∈D then z.failed n else z).kd=z.kd/\(if z.key∈D then z.failed n else z).s=z.s:=fun z=>by split<;>exact⟨rfl,rfl⟩
  have w:=y a;have x:=y b;rw[qQ]at h ⊢;rw[w.1,w.2,x.1,x.2];exact h
 ·rw[List.map_map,List.map_map];refine List.map_congr_left (fun z L=>?_);dsimp only[Function.comp];rcases ZO QL z with⟨q,m,g,e⟩|⟨hn,e⟩
  ·rcases f.out q m with d|⟨d,u⟩
   ·have c:z.key∉D:=g▸f.inn q d;rw[if_neg c];have k:jD Q1 z=(q.1,q.2.slot,q.2.til):=Q6 f.jobs d g;have A:kh QL z=kh Q1 z:=jM (e.trans k.symm);rw[A];unfold zkU;rw[if_neg];rintro⟨-,B⟩;have v:(kh Q1 z).till=q.2.til:=(by show(jD Q1 z).2.2=_;rw[k]);have:=G q d;omega
   ·have c:z.key∈D:=g▸d;rw[if_pos c];have r:jD Q1 (z.failed n)=(⟨0,0⟩,-1,0):=Zu (fun q' i o=>f.inn q' i (by rw[show q'.2.job=z.key from o];exact c));unfold zkU;rw[if_pos]
    ·unfold Tk.fail kh;rw[r];rfl
    ·have v:(kh QL z).till=q.2.til:=(by show(jD QL z).2.2=_;rw[e]);have I:(kh QL z).slot=q.2.slot:=(by show(jD QL z).2.1=_;rw[e]);have:=j q m;omega
  ·have c:z.key∉D:=fun c=>by
    obtain⟨q,d,u⟩:=f.has _ c;exact hn q d u
   rw[if_neg c];have k:jD Q1 z=(⟨0,0⟩,-1,0):=Zu (fun q' i o=>hn q' (f.sub q' i) o);rw[jM (e.trans k.symm)];unfold zkU;rw[if_neg];rintro⟨B,-⟩;have v:(kh Q1 z).slot= -1:=(by show(jD Q1 z).2.1=_;rw[k]);omega
section
variable {c:Cf} {ep:Int} {m:MS} {r:RM}
theorem qV.tick_bad(h:qV c ep m r)(a:n<1\/1000<n\/100000<m.now+n):r.tickL n=(r,5):=zjT (by rw[h.tie.now];exact a)
theorem qV.tick(h:qV c ep m r)(hn:1<=n/\n<=1000)(e:m.now+n<=100000){b:List (Jk×Tsk)}{a:List (Tok×Lse)}(g:YQ (m.now+n) m.TL m.QL b a)(l:∀p∈a,m.now+n<p.2.til)(f:xB c {m with now:=m.now+n,TL:=b,QL:=a} TL'):(r.tickL n).2=0/\qV c ep {m with now:=m.now+n,TL:=TL',QL:=a} (r.tickL n).1:=by
 have v:r.tickL n=({r with now:=r.now+n,td:=r.td.map (zkU (r.now+n))}.settled,0):=zmu (by rw[h.tie.now];omega);rw[v];refine⟨rfl,?_⟩;have k:=h.sok.ok.exps (n':=m.now+n) ⟨by omega,e⟩ g l;obtain⟨D,t⟩:=zhT h.sok.ok.nt h.sok.ok.nq h.sok.ok.jobs g;have i:X6 c {m with now:=m.now+n,TL:=b,QL:=a} r.nu:=h.tie.inv.ticked (by omega) (zeg g) m.num;have d:zdV c {m with now:=m.now+n,TL:=b,QL:=a} {r with now:=r.now+n,td:=r.td.map (zkU (r.now+n))}:=⟨h.tie.hc,by show r.now+n=m.now+n;rw[h.tie.now],h.tie.gone,h.tie.pub,i⟩;have j:xG b a (r.td.map (zkU (r.now+n))):=by
  rw[h.tie.now];exact h.tsk.expired (fun p f=>(h.sok.ok.td p f).key) h.slot t l
 have s:=ZX h.ok h.fits k d j f;have u:XK c ep m r.nu {m with now:=m.now+n,TL:=TL',QL:=a} r.nu:=.ticked m r.nu n b TL' a hn.1 e g l f;refine⟨h.ok,h.fits,u.ok h.ok h.fits h.sok,⟨d.hc,d.now,d.gone,d.pub,h.tie.inv.act h.ok h.fits h.sok (by have:=h.len;omega) u⟩,s,fun q o=>h.slot q (t.sub q o),h.picks,h.epo,h.ghas,h.ng,h.np,h.full,Xm.of f⟩
end
theorem zgy(h:Yg w p g ws k)(c:Cf)(hc:c.ok)(a:Option Addr)(cap:Nat)(x:SX)(S:rdX c x)(an:x.2.st=2)(hw:∀j n,(ZV x)[j]?=E n->ws[k+j]?=E n):
  Calls prog 201 #[(O p),(cZz c a cap)] w fun e w'=>e=.returned (.agg (xZz x))/\Yg w' p g ws (k+(ZV x).length)/\zi (fun q=>q=p) w w':=by
 obtain⟨⟨t,sr,wn⟩,⟨st,⟨cnt,sum,mn,mx⟩⟩⟩:=x;obtain⟨ad,ai,-⟩:=h.head;have pl:=zd ai;have gl:=zd h.row;have aI:=hc.n4;obtain⟨t1,t2⟩:=S.t;obtain⟨s1,s2⟩:=S.sr;obtain⟨w1,w2⟩:=S.wn;obtain⟨e1,e2⟩:=S.st;have R:=S.cel;have a0:=S.no;have P:=S.raw;dsimp only at t1 t2 s1 s2 w1 w2 e1 e2 R a0 P an ⊢;subst an;clear S;have aJ:¬t= -1:=by exact fun e=>absurd ((P (by omega)).2 e) (by omega)
 obtain⟨rfl,rfl,rfl,rfl⟩:cnt=0/\sum=0/\mn=0/\mx=0:=by have:=a0 rfl;unfold qA at this;injection this with a1 a2 a3 a4;exact⟨a1,a2,a3,a4⟩
 have ao:ZV (⟨t,sr,wn⟩,⟨2,⟨0,0,0,0⟩⟩)=[t,sr,wn,2]:=rfl;have aq:=ze ao;clear R a0 P ao e1 e2;obtain⟨y0,y1,y2,Z,hz⟩:=Jv w (.cells (aZz c a cap) 89) zaI zaI;have HT:=fun W=>ze (vp c a cap W);have ag:=h.kept (zi.of_below (f:=fun _=>False) Z) (fun e=>e) (fun e=>e);obtain⟨l0,-⟩:=zc y0;have T:=ze Z;have aa:=ze ag;have Y2:=ze y2;have Y1:=ze y1;have HZ:=ze hz;clear h ai Z ag y0 y1 y2 l0 hz;go_enter func201,ntmps201;go_wp2_with fail;generalize(((w.alloc (.cells (aZz c a cap) 89)).alloc zaI).alloc zaI)=X at*;refine(ud (HT _)).mono ?_;rintro e X1 ⟨rfl,G⟩;have hz:=ud HZ;obtain⟨b,ah⟩:∃b,w.1.size+1+1=b:=⟨_,rfl⟩;have C:X1.1[b]?=E (.cells #[I 0,I 0,I 0,I 0,I 0,I 0,J K 0,J K 0] 148 (0,0)):=by rw[<-ah];exact(G.block _ (by omega)).trans (ud Y2)
 obtain⟨D,al⟩:∃D,w.1.size+1=D:=⟨_,rfl⟩;have am:X1.1[D]?=E (.cells #[I 0,I 0,I 0,I 0,I 0,I 0,J K 0,J K 0] 148 (0,0)):=by rw[<-al];exact(G.block _ (by omega)).trans (ud Y1)
 have a9:=ze am;have l:zi (fun q=>q=p\/q=b) X1 X1:=zi.refl _ _;have F:=(ud aa).kept (zi.of_below (f:=fun _=>False) G) (fun e=>e) (fun e=>e);have m:zi (fun q=>q=p) w X1:=zi.of_below ((ud T).trans (G.mono (ud T).size));have aH:=fun W=>Yy b W;have A:¬b=p:=by omega
 have Q:¬b=g:=by omega
 rw[ah,al];have ak:¬D=p:=by omega
 have aG:¬D=b:=by omega
 clear G HT aa Y1 Y2 T HZ am;go_wp2_with fail;have a5:=ze (zY F (n:=t) (hw 0 _ (by rfl)) (by unfold xz;omega) (-1) (c.n-1) (by omega) (by omega));refine(ud a5).mono ?_;rintro e V0 ⟨rfl,ab,V⟩;have H:=V.heap C (show¬b=p from A);obtain⟨au,-⟩:=zc H;have ax:=zw H 0;have aB:=zd H;have z:=xD (i:=0) H (I t);have d:zi (fun q=>q=p\/q=b) X1 (V0.setCell (U b 0) (I t)):=(V.mono (fun _ _ e=> .inl e)).trans (zi.setCell (f:=fun q=>q=b) (zi.refl _ _) (p:=(U b 0)) (fun _=>rfl) _) (fun _ _ e=> .inr e);have y:=ab.kept (zi.setCell (f:=fun q=>q=b) (zi.refl _ _) (p:=(U b 0)) (fun _=>rfl) (I t)) (fun e=>A e.symm) (fun e=>Q e.symm);have r:=ze y;have u:=ze z;have s:=ze (l.trans d (fun _ _ e=>e));have o:=ze (m.trans d (fun _ hk e=>e.elim id (fun e=>absurd e (by omega))));clear F ab V C y z d m l a5;go_wp2_with fail;generalize B:V0.setCell (U b 0) (I t)=W0 at*;have F:=ud r;have C:=ud u;have m:=ud o;have l:=ud s;clear r u o s H au ax aB B;have a6:=ze (zY F (n:=sr) (hw 1 _ (by rfl)) (by unfold xz;omega) 0 3 (by omega) (by omega));refine(ud a6).mono ?_;rintro e V1 ⟨rfl,ac,hK1⟩;have L:=hK1.heap C (show¬b=p from A);obtain⟨-,av,-⟩:=zc L;have ay:=zw L 1;have aC:=zd L;have z:=xD (i:=1) L (I sr);have d:zi (fun q=>q=p\/q=b) W0 (V1.setCell (U b 1) (I sr)):=(hK1.mono (fun _ _ e=> .inl e)).trans (zi.setCell (f:=fun q=>q=b) (zi.refl _ _) (p:=(U b 1)) (fun _=>rfl) _) (fun _ _ e=> .inr e);have y:=ac.kept (zi.setCell (f:=fun q=>q=b) (zi.refl _ _) (p:=(U b 1)) (fun _=>rfl) (I sr)) (fun e=>A e.symm) (fun e=>Q e.symm);have r:=ze y;have u:=ze z;have s:=ze (l.trans d (fun _ _ e=>e));have o:=ze (m.trans d (fun _ hk e=>e.elim id (fun e=>absurd e (by omega))));clear F ac hK1 C y z d m l a6;go_wp2_with fail;generalize B:V1.setCell (U b 1) (I sr)=W1 at*;have F:=ud r;have C:=ud u;have m:=ud o;have l:=ud s;clear r u o s L av ay aC B;have a7:=ze (zY F (n:=wn) (hw 2 _ (by rfl)) (by unfold xz;omega) 0 100000 (by omega) (by omega));refine(ud a7).mono ?_;rintro e V2 ⟨rfl,ae,hK2⟩;have M:=hK2.heap C (show¬b=p from A);obtain⟨-,-,hc2,-⟩:=zc M;have az:=zw M 2;have aD:=zd M;have z:=xD (i:=2) M (I wn);have d:zi (fun q=>q=p\/q=b) W1 (V2.setCell (U b 2) (I wn)):=(hK2.mono (fun _ _ e=> .inl e)).trans (zi.setCell (f:=fun q=>q=b) (zi.refl _ _) (p:=(U b 2)) (fun _=>rfl) _) (fun _ _ e=> .inr e);have y:=ae.kept (zi.setCell (f:=fun q=>q=b) (zi.refl _ _) (p:=(U b 2)) (fun _=>rfl) (I wn)) (fun e=>A e.symm) (fun e=>Q e.symm);have r:=ze y;have u:=ze z;have s:=ze (l.trans d (fun _ _ e=>e));have o:=ze (m.trans d (fun _ hk e=>e.elim id (fun e=>absurd e (by omega))));clear F ae hK2 C y z d m l a7;go_wp2_with fail;generalize B:V2.setCell (U b 2) (I wn)=W2 at*;have F:=ud r;have C:=ud u;have m:=ud o;have l:=ud s;clear r u o s M hc2 az aD B;have a8:=ze (zY F (n:=2) (hw 3 _ (by rfl)) (by unfold xz;omega) 1 4 (by omega) (by omega));refine(ud a8).mono ?_;rintro e V3 ⟨rfl,af,Y⟩;have N:=Y.heap C (show¬b=p from A);obtain⟨-,-,-,aw,-⟩:=zc N;have aA:=zw N 3;have aE:=zd N;have z:=xD (i:=3) N (I 2);have d:zi (fun q=>q=p\/q=b) W2 (V3.setCell (U b 3) (I 2)):=(Y.mono (fun _ _ e=> .inl e)).trans (zi.setCell (f:=fun q=>q=b) (zi.refl _ _) (p:=(U b 3)) (fun _=>rfl) _) (fun _ _ e=> .inr e);have y:=af.kept (zi.setCell (f:=fun q=>q=b) (zi.refl _ _) (p:=(U b 3)) (fun _=>rfl) (I 2)) (fun e=>A e.symm) (fun e=>Q e.symm);have r:=ze y;have u:=ze z;have s:=ze (l.trans d (fun _ _ e=>e));have o:=ze (m.trans d (fun _ hk e=>e.elim id (fun e=>absurd e (by omega))));clear F af Y C y z d m l a8;go_wp2_with fail;refine(kq 2 _).mono ?_;rintro e U9 ⟨rfl,ar⟩;subst ar;generalize B:V3.setCell (U b 3) (I 2)=W3 at*;have F:=ud r;have C:=ud u;have m:=ud o;have l:=ud s;clear r u o s N aw aA aE B;have r:=ze F;have o:=ze m;obtain⟨z0,z1,z2,z3,z4,z5,z6,z7⟩:=z8 C;have zl:=zd C;have hr:=l.heap (ud a9) (fun e=>e.elim ak aG);obtain⟨r0,r1,r2,r3,r4,r5,r6,r7⟩:=z8 hr;have rf:=fun j=>zw hr j;have rl:=zd hr;have ap:=ze hr;clear F C m hr l a9;go_wp2_with fail;have aF:=ud ap;have hf:=zdH aF (I t) (I sr) (I wn) (I 2) (I 0) (I 0) (J K 0) (J K 0);have aj:zi (fun q=>q=D) W3 ((((((((W3.setCell (U D 0) (I t)).setCell (U D 1) (I sr)).setCell (U D 2) (I wn)).setCell (U D 3) (I 2)).setCell (U D 4) (I 0)).setCell (U D 5) (I 0)).setCell (U D 6) (J K 0)).setCell (U D 7) (J K 0)):=(zg (zg (zg (zg (zg (zg (zg (zg (zi.refl _ _) rfl) rfl) rfl) rfl) rfl) rfl) rfl) rfl);refine bodyPost_ret (v:=.agg #[I t,I sr,I wn,I 2,I 0,I 0,J K 0,J K 0]) (results_cell_row results201 _ _ D _ _ _ _ rfl hf underlying148 rfl (by kernel_rfl)) rfl ?_;exact⟨rfl,by rw[ud aq];exact(ud r).kept aj (fun e=>ak e.symm) (fun e=>absurd e (by omega)),(ud o).trans aj (fun _ hk e=>absurd e (by omega))⟩
theorem zgA(h:Yg w p g ws k)(c:Cf)(hc:c.ok)(a:Option Addr)(cap:Nat)(x:SX)(S:rdX c x)(an:x.2.st=4)(hw:∀j n,(ZV x)[j]?=E n->ws[k+j]?=E n):
  Calls prog 201 #[(O p),(cZz c a cap)] w fun e w'=>e=.returned (.agg (xZz x))/\Yg w' p g ws (k+(ZV x).length)/\zi (fun q=>q=p) w w':=by
 obtain⟨⟨t,sr,wn⟩,⟨st,⟨cnt,sum,mn,mx⟩⟩⟩:=x;obtain⟨ad,ai,-⟩:=h.head;have pl:=zd ai;have gl:=zd h.row;have aI:=hc.n4;obtain⟨t1,t2⟩:=S.t;obtain⟨s1,s2⟩:=S.sr;obtain⟨w1,w2⟩:=S.wn;obtain⟨e1,e2⟩:=S.st;have Q:=S.cel;have a0:=S.no;have R:=S.raw;dsimp only at t1 t2 s1 s2 w1 w2 e1 e2 Q a0 R an ⊢;subst an;clear S;have aJ:True:=by trivial
 obtain⟨rfl,rfl,rfl,rfl⟩:cnt=0/\sum=0/\mn=0/\mx=0:=by have:=a0 rfl;unfold qA at this;injection this with a1 a2 a3 a4;exact⟨a1,a2,a3,a4⟩
 have ao:ZV (⟨t,sr,wn⟩,⟨4,⟨0,0,0,0⟩⟩)=[t,sr,wn,4]:=rfl;have aq:=ze ao;clear Q a0 R ao e1 e2;obtain⟨y0,y1,y2,Z,hz⟩:=Jv w (.cells (aZz c a cap) 89) zaI zaI;have HT:=fun W=>ze (vp c a cap W);have ag:=h.kept (zi.of_below (f:=fun _=>False) Z) (fun e=>e) (fun e=>e);obtain⟨l0,-⟩:=zc y0;have T:=ze Z;have aa:=ze ag;have Y2:=ze y2;have Y1:=ze y1;have HZ:=ze hz;clear h ai Z ag y0 y1 y2 l0 hz;go_enter func201,ntmps201;go_wp2_with fail;generalize(((w.alloc (.cells (aZz c a cap) 89)).alloc zaI).alloc zaI)=X at*;refine(ud (HT _)).mono ?_;rintro e X1 ⟨rfl,G⟩;have hz:=ud HZ;obtain⟨b,ah⟩:∃b,w.1.size+1+1=b:=⟨_,rfl⟩;have C:X1.1[b]?=E (.cells #[I 0,I 0,I 0,I 0,I 0,I 0,J K 0,J K 0] 148 (0,0)):=by rw[<-ah];exact(G.block _ (by omega)).trans (ud Y2)
 obtain⟨D,al⟩:∃D,w.1.size+1=D:=⟨_,rfl⟩;have am:X1.1[D]?=E (.cells #[I 0,I 0,I 0,I 0,I 0,I 0,J K 0,J K 0] 148 (0,0)):=by rw[<-al];exact(G.block _ (by omega)).trans (ud Y1)
 have a9:=ze am;have l:zi (fun q=>q=p\/q=b) X1 X1:=zi.refl _ _;have F:=(ud aa).kept (zi.of_below (f:=fun _=>False) G) (fun e=>e) (fun e=>e);have m:zi (fun q=>q=p) w X1:=zi.of_below ((ud T).trans (G.mono (ud T).size));have aH:=fun W=>Yy b W;have A:¬b=p:=by omega
 have P:¬b=g:=by omega
 rw[ah,al];have ak:¬D=p:=by omega
 have aG:¬D=b:=by omega
 clear G HT aa Y1 Y2 T HZ am;go_wp2_with fail;have a5:=ze (zY F (n:=t) (hw 0 _ (by rfl)) (by unfold xz;omega) (-1) (c.n-1) (by omega) (by omega));refine(ud a5).mono ?_;rintro e V0 ⟨rfl,ab,V⟩;have H:=V.heap C (show¬b=p from A);obtain⟨au,-⟩:=zc H;have ax:=zw H 0;have aB:=zd H;have z:=xD (i:=0) H (I t);have d:zi (fun q=>q=p\/q=b) X1 (V0.setCell (U b 0) (I t)):=(V.mono (fun _ _ e=> .inl e)).trans (zi.setCell (f:=fun q=>q=b) (zi.refl _ _) (p:=(U b 0)) (fun _=>rfl) _) (fun _ _ e=> .inr e);have y:=ab.kept (zi.setCell (f:=fun q=>q=b) (zi.refl _ _) (p:=(U b 0)) (fun _=>rfl) (I t)) (fun e=>A e.symm) (fun e=>P e.symm);have r:=ze y;have u:=ze z;have s:=ze (l.trans d (fun _ _ e=>e));have o:=ze (m.trans d (fun _ hk e=>e.elim id (fun e=>absurd e (by omega))));clear F ab V C y z d m l a5;go_wp2_with fail;generalize B:V0.setCell (U b 0) (I t)=W0 at*;have F:=ud r;have C:=ud u;have m:=ud o;have l:=ud s;clear r u o s H au ax aB B;have a6:=ze (zY F (n:=sr) (hw 1 _ (by rfl)) (by unfold xz;omega) 0 3 (by omega) (by omega));refine(ud a6).mono ?_;rintro e V1 ⟨rfl,ac,hK1⟩;have L:=hK1.heap C (show¬b=p from A);obtain⟨-,av,-⟩:=zc L;have ay:=zw L 1;have aC:=zd L;have z:=xD (i:=1) L (I sr);have d:zi (fun q=>q=p\/q=b) W0 (V1.setCell (U b 1) (I sr)):=(hK1.mono (fun _ _ e=> .inl e)).trans (zi.setCell (f:=fun q=>q=b) (zi.refl _ _) (p:=(U b 1)) (fun _=>rfl) _) (fun _ _ e=> .inr e);have y:=ac.kept (zi.setCell (f:=fun q=>q=b) (zi.refl _ _) (p:=(U b 1)) (fun _=>rfl) (I sr)) (fun e=>A e.symm) (fun e=>P e.symm);have r:=ze y;have u:=ze z;have s:=ze (l.trans d (fun _ _ e=>e));have o:=ze (m.trans d (fun _ hk e=>e.elim id (fun e=>absurd e (by omega))));clear F ac hK1 C y z d m l a6;go_wp2_with fail;generalize B:V1.setCell (U b 1) (I sr)=W1 at*;have F:=ud r;have C:=ud u;have m:=ud o;have l:=ud s;clear r u o s L av ay aC B;have a7:=ze (zY F (n:=wn) (hw 2 _ (by rfl)) (by unfold xz;omega) 0 100000 (by omega) (by omega));refine(ud a7).mono ?_;rintro e V2 ⟨rfl,ae,hK2⟩;have M:=hK2.heap C (show¬b=p from A);obtain⟨-,-,hc2,-⟩:=zc M;have az:=zw M 2;have aD:=zd M;have z:=xD (i:=2) M (I wn);have d:zi (fun q=>q=p\/q=b) W1 (V2.setCell (U b 2) (I wn)):=(hK2.mono (fun _ _ e=> .inl e)).trans (zi.setCell (f:=fun q=>q=b) (zi.refl _ _) (p:=(U b 2)) (fun _=>rfl) _) (fun _ _ e=> .inr e);have y:=ae.kept (zi.setCell (f:=fun q=>q=b) (zi.refl _ _) (p:=(U b 2)) (fun _=>rfl) (I wn)) (fun e=>A e.symm) (fun e=>P e.symm);have r:=ze y;have u:=ze z;have s:=ze (l.trans d (fun _ _ e=>e));have o:=ze (m.trans d (fun _ hk e=>e.elim id (fun e=>absurd e (by omega))));clear F ae hK2 C y z d m l a7;go_wp2_with fail;generalize B:V2.setCell (U b 2) (I wn)=W2 at*;have F:=ud r;have C:=ud u;have m:=ud o;have l:=ud s;clear r u o s M hc2 az aD B;have a8:=ze (zY F (n:=4) (hw 3 _ (by rfl)) (by unfold xz;omega) 1 4 (by omega) (by omega));refine(ud a8).mono ?_;rintro e V3 ⟨rfl,af,Y⟩;have N:=Y.heap C (show¬b=p from A);obtain⟨-,-,-,aw,-⟩:=zc N;have aA:=zw N 3;have aE:=zd N;have z:=xD (i:=3) N (I 4);have d:zi (fun q=>q=p\/q=b) W2 (V3.setCell (U b 3) (I 4)):=(Y.mono (fun _ _ e=> .inl e)).trans (zi.setCell (f:=fun q=>q=b) (zi.refl _ _) (p:=(U b 3)) (fun _=>rfl) _) (fun _ _ e=> .inr e);have y:=af.kept (zi.setCell (f:=fun q=>q=b) (zi.refl _ _) (p:=(U b 3)) (fun _=>rfl) (I 4)) (fun e=>A e.symm) (fun e=>P e.symm);have r:=ze y;have u:=ze z;have s:=ze (l.trans d (fun _ _ e=>e));have o:=ze (m.trans d (fun _ hk e=>e.elim id (fun e=>absurd e (by omega))));clear F af Y C y z d m l a8;go_wp2_with fail;refine(kq 4 _).mono ?_;rintro e U9 ⟨rfl,ar⟩;subst ar;generalize B:V3.setCell (U b 3) (I 4)=W3 at*;have F:=ud r;have C:=ud u;have m:=ud o;have l:=ud s;clear r u o s N aw aA aE B;have r:=ze F;have o:=ze m;obtain⟨z0,z1,z2,z3,z4,z5,z6,z7⟩:=z8 C;have zl:=zd C;have hr:=l.heap (ud a9) (fun e=>e.elim ak aG);obtain⟨r0,r1,r2,r3,r4,r5,r6,r7⟩:=z8 hr;have rf:=fun j=>zw hr j;have rl:=zd hr;have ap:=ze hr;clear F C m hr l a9;go_wp2_with fail;have aF:=ud ap;have hf:=zdH aF (I t) (I sr) (I wn) (I 4) (I 0) (I 0) (J K 0) (J K 0);have aj:zi (fun q=>q=D) W3 ((((((((W3.setCell (U D 0) (I t)).setCell (U D 1) (I sr)).setCell (U D 2) (I wn)).setCell (U D 3) (I 4)).setCell (U D 4) (I 0)).setCell (U D 5) (I 0)).setCell (U D 6) (J K 0)).setCell (U D 7) (J K 0)):=(zg (zg (zg (zg (zg (zg (zg (zg (zi.refl _ _) rfl) rfl) rfl) rfl) rfl) rfl) rfl) rfl);refine bodyPost_ret (v:=.agg #[I t,I sr,I wn,I 4,I 0,I 0,J K 0,J K 0]) (results_cell_row results201 _ _ D _ _ _ _ rfl hf underlying148 rfl (by kernel_rfl)) rfl ?_;exact⟨rfl,by rw[ud aq];exact(ud r).kept aj (fun e=>ak e.symm) (fun e=>absurd e (by omega)),(ud o).trans aj (fun _ hk e=>absurd e (by omega))⟩
theorem zgx(h:Yg w p g ws k)(c:Cf)(hc:c.ok)(a:Option Addr)(cap:Nat)(x:SX)(hx:rdX c x)(aC:x.2.st=1)(hw:∀j n,(ZV x)[j]?=E n->ws[k+j]?=E n):
  Calls prog 201 #[(O p),(cZz c a cap)] w fun e w'=>e=.returned (.agg (xZz x))/\Yg w' p g ws (k+(ZV x).length)/\zi (fun q=>q=p) w w':=by
 obtain⟨⟨t,sr,wn⟩,⟨st,⟨cnt,sum,mn,mx⟩⟩⟩:=x;obtain⟨ad,av,-⟩:=h.head;have pl:=zd av;have gl:=zd h.row;have b7:=hc.n4;obtain⟨t1,t2⟩:=hx.t;obtain⟨s1,s2⟩:=hx.sr;obtain⟨w1,w2⟩:=hx.wn;obtain⟨e1,e2⟩:=hx.st;have N:=hx.cel;have ax:=hx.no;have a0:=hx.raw;dsimp only at t1 t2 s1 s2 w1 w2 e1 e2 N ax a0 aC ⊢;subst aC;clear hx;have b2:t= -1:=by exact(a0 (by omega)).1 rfl
 obtain⟨q1,q2,q3,⟨q4,q5⟩,q6,q7⟩:=N rfl;have aD:ZV (⟨t,sr,wn⟩,⟨1,⟨cnt,sum,mn,mx⟩⟩)=[t,sr,wn,1,cnt,sum,mn,mx]:=rfl;subst b2;have L:=ze aD;clear N ax a0 aD e1 e2;obtain⟨y0,y1,y2,a8,hz⟩:=Jv w (.cells (aZz c a cap) 89) zaI zaI;have HT:=fun W=>ze (vp c a cap W);have ar:=h.kept (zi.of_below (f:=fun _=>False) a8) (fun e=>e) (fun e=>e);obtain⟨l0,-⟩:=zc y0;have a2:=ze a8;have ai:=ze ar;have Y2:=ze y2;have Y1:=ze y1;have HZ:=ze hz;clear h av a8 ar y0 y1 y2 l0 hz;go_enter func201,ntmps201;go_wp2_with fail;generalize(((w.alloc (.cells (aZz c a cap) 89)).alloc zaI).alloc zaI)=X at*;refine(ud (HT _)).mono ?_;rintro e X1 ⟨rfl,M⟩;have hz:=ud HZ;obtain⟨b,au⟩:∃b,w.1.size+1+1=b:=⟨_,rfl⟩;have D:X1.1[b]?=E (.cells #[I 0,I 0,I 0,I 0,I 0,I 0,J K 0,J K 0] 148 (0,0)):=by rw[<-au];exact(M.block _ (by omega)).trans (ud Y2)
 obtain⟨G,aA⟩:∃G,w.1.size+1=G:=⟨_,rfl⟩;have aB:X1.1[G]?=E (.cells #[I 0,I 0,I 0,I 0,I 0,I 0,J K 0,J K 0] 148 (0,0)):=by rw[<-aA];exact(M.block _ (by omega)).trans (ud Y1)
 have aF:=ze aB;have l:zi (fun q=>q=p\/q=b) X1 X1:=zi.refl _ _;have C:=(ud ai).kept (zi.of_below (f:=fun _=>False) M) (fun e=>e) (fun e=>e);have o:zi (fun q=>q=p) w X1:=zi.of_below ((ud a2).trans (M.mono (ud a2).size));have b5:=fun W=>Yy b W;have A:¬b=p:=by omega
 have F:¬b=g:=by omega
 rw[au,aA];have az:¬G=p:=by omega
 have ay:¬G=b:=by omega
 clear M HT ai Y1 Y2 a2 HZ aB;go_wp2_with fail;have a9:=ze (zY C (n:=(-1)) (hw 0 _ (by rfl)) (by unfold xz;omega) (-1) (c.n-1) (by omega) (by omega));refine(ud a9).mono ?_;rintro e V0 ⟨rfl,aj,a3⟩;have P:=a3.heap D (show¬b=p from A);obtain⟨aH,-⟩:=zc P;have aN:=zw P 0;have aU:=zd P;have r:=xD (i:=0) P (I (-1));have d:zi (fun q=>q=p\/q=b) X1 (V0.setCell (U b 0) (I (-1))):=(a3.mono (fun _ _ e=> .inl e)).trans (zi.setCell (f:=fun q=>q=b) (zi.refl _ _) (p:=(U b 0)) (fun _=>rfl) _) (fun _ _ e=> .inr e);have m:=aj.kept (zi.setCell (f:=fun q=>q=b) (zi.refl _ _) (p:=(U b 0)) (fun _=>rfl) (I (-1))) (fun e=>A e.symm) (fun e=>F e.symm);have u:=ze m;have z:=ze r;have y:=ze (l.trans d (fun _ _ e=>e));have s:=ze (o.trans d (fun _ hk e=>e.elim id (fun e=>absurd e (by omega))));clear C aj a3 D m r d o l a9;go_wp2_with fail;generalize B:V0.setCell (U b 0) (I (-1))=W0 at*;have C:=ud u;have D:=ud z;have o:=ud s;have l:=ud y;clear u z s y P aH aN aU B;have aa:=ze (zY C (n:=sr) (hw 1 _ (by rfl)) (by unfold xz;omega) 0 3 (by omega) (by omega));refine(ud aa).mono ?_;rintro e V1 ⟨rfl,ak,hK1⟩;have Q:=hK1.heap D (show¬b=p from A);obtain⟨-,aI,-⟩:=zc Q;have aO:=zw Q 1;have aV:=zd Q;have r:=xD (i:=1) Q (I sr);have d:zi (fun q=>q=p\/q=b) W0 (V1.setCell (U b 1) (I sr)):=(hK1.mono (fun _ _ e=> .inl e)).trans (zi.setCell (f:=fun q=>q=b) (zi.refl _ _) (p:=(U b 1)) (fun _=>rfl) _) (fun _ _ e=> .inr e);have m:=ak.kept (zi.setCell (f:=fun q=>q=b) (zi.refl _ _) (p:=(U b 1)) (fun _=>rfl) (I sr)) (fun e=>A e.symm) (fun e=>F e.symm);have u:=ze m;have z:=ze r;have y:=ze (l.trans d (fun _ _ e=>e));have s:=ze (o.trans d (fun _ hk e=>e.elim id (fun e=>absurd e (by omega))));clear C ak hK1 D m r d o l aa;go_wp2_with fail;generalize B:V1.setCell (U b 1) (I sr)=W1 at*;have C:=ud u;have D:=ud z;have o:=ud s;have l:=ud y;clear u z s y Q aI aO aV B;have ab:=ze (zY C (n:=wn) (hw 2 _ (by rfl)) (by unfold xz;omega) 0 100000 (by omega) (by omega));refine(ud ab).mono ?_;rintro e V2 ⟨rfl,al,hK2⟩;have R:=hK2.heap D (show¬b=p from A);obtain⟨-,-,hc2,-⟩:=zc R;have aP:=zw R 2;have aW:=zd R;have r:=xD (i:=2) R (I wn);have d:zi (fun q=>q=p\/q=b) W1 (V2.setCell (U b 2) (I wn)):=(hK2.mono (fun _ _ e=> .inl e)).trans (zi.setCell (f:=fun q=>q=b) (zi.refl _ _) (p:=(U b 2)) (fun _=>rfl) _) (fun _ _ e=> .inr e);have m:=al.kept (zi.setCell (f:=fun q=>q=b) (zi.refl _ _) (p:=(U b 2)) (fun _=>rfl) (I wn)) (fun e=>A e.symm) (fun e=>F e.symm);have u:=ze m;have z:=ze r;have y:=ze (l.trans d (fun _ _ e=>e));have s:=ze (o.trans d (fun _ hk e=>e.elim id (fun e=>absurd e (by omega))));clear C al hK2 D m r d o l ab;go_wp2_with fail;generalize B:V2.setCell (U b 2) (I wn)=W2 at*;have C:=ud u;have D:=ud z;have o:=ud s;have l:=ud y;clear u z s y R hc2 aP aW B;have ac:=ze (zY C (n:=1) (hw 3 _ (by rfl)) (by unfold xz;omega) 1 4 (by omega) (by omega));refine(ud ac).mono ?_;rintro e V3 ⟨rfl,am,a4⟩;have S:=a4.heap D (show¬b=p from A);obtain⟨-,-,-,aJ,-⟩:=zc S;have aQ:=zw S 3;have aX:=zd S;have r:=xD (i:=3) S (I 1);have d:zi (fun q=>q=p\/q=b) W2 (V3.setCell (U b 3) (I 1)):=(a4.mono (fun _ _ e=> .inl e)).trans (zi.setCell (f:=fun q=>q=b) (zi.refl _ _) (p:=(U b 3)) (fun _=>rfl) _) (fun _ _ e=> .inr e);have m:=am.kept (zi.setCell (f:=fun q=>q=b) (zi.refl _ _) (p:=(U b 3)) (fun _=>rfl) (I 1)) (fun e=>A e.symm) (fun e=>F e.symm);have u:=ze m;have z:=ze r;have y:=ze (l.trans d (fun _ _ e=>e));have s:=ze (o.trans d (fun _ hk e=>e.elim id (fun e=>absurd e (by omega))));clear C am a4 D m r d o l ac;go_wp2_with fail;refine(kq 1 _).mono ?_;rintro e U9 ⟨rfl,aG⟩;subst aG;generalize B:V3.setCell (U b 3) (I 1)=W3 at*;have C:=ud u;have D:=ud z;have o:=ud s;have l:=ud y;clear u z s y S aJ aQ aX B;go_wp2_with fail;have ae:=ze (zY C (n:=cnt) (hw 4 _ (by rw[ud L];rfl)) (by unfold xz;omega) 1 2147483647 (by omega) (by omega));refine(ud ae).mono ?_;rintro e V4 ⟨rfl,an,a5⟩;have T:=a5.heap D (show¬b=p from A);obtain⟨-,-,-,-,aK,-⟩:=zc T;have aR:=zw T 4;have aY:=zd T;have r:=xD (i:=4) T (I cnt);have d:zi (fun q=>q=p\/q=b) W3 (V4.setCell (U b 4) (I cnt)):=(a5.mono (fun _ _ e=> .inl e)).trans (zi.setCell (f:=fun q=>q=b) (zi.refl _ _) (p:=(U b 4)) (fun _=>rfl) _) (fun _ _ e=> .inr e);have m:=an.kept (zi.setCell (f:=fun q=>q=b) (zi.refl _ _) (p:=(U b 4)) (fun _=>rfl) (I cnt)) (fun e=>A e.symm) (fun e=>F e.symm);have u:=ze m;have z:=ze r;have y:=ze (l.trans d (fun _ _ e=>e));have s:=ze (o.trans d (fun _ hk e=>e.elim id (fun e=>absurd e (by omega))));clear C an a5 D m r d o l ae;go_wp2_with fail;generalize B:V4.setCell (U b 4) (I cnt)=W4 at*;have C:=ud u;have D:=ud z;have o:=ud s;have l:=ud y;clear u z s y T aK aR aY B;have af:=ze (zY C (n:=sum) (hw 5 _ (by rw[ud L];rfl)) (by exact q3) (-9223372036854775808) 9223372036854775807 (by exact q3.1) (by exact q3.2));refine(ud af).mono ?_;rintro e V5 ⟨rfl,ao,a6⟩;have V:=a6.heap D (show¬b=p from A);obtain⟨-,-,-,-,-,aL,-⟩:=zc V;have aS:=zw V 5;have aZ:=zd V;have r:=xD (i:=5) V (I sum);have d:zi (fun q=>q=p\/q=b) W4 (V5.setCell (U b 5) (I sum)):=(a6.mono (fun _ _ e=> .inl e)).trans (zi.setCell (f:=fun q=>q=b) (zi.refl _ _) (p:=(U b 5)) (fun _=>rfl) _) (fun _ _ e=> .inr e);have m:=ao.kept (zi.setCell (f:=fun q=>q=b) (zi.refl _ _) (p:=(U b 5)) (fun _=>rfl) (I sum)) (fun e=>A e.symm) (fun e=>F e.symm);have u:=ze m;have z:=ze r;have y:=ze (l.trans d (fun _ _ e=>e));have s:=ze (o.trans d (fun _ hk e=>e.elim id (fun e=>absurd e (by omega))));clear C ao a6 D m r d o l af;go_wp2_with fail;generalize B:V5.setCell (U b 5) (I sum)=W5 at*;have C:=ud u;have D:=ud z;have o:=ud s;have l:=ud y;clear u z s y V aL aS aZ B;have ag:=ze (zY C (n:=mn) (hw 6 _ (by rw[ud L];rfl)) (by unfold xz;omega) (-2147483648) 2147483647 (by omega) (by omega));refine(ud ag).mono ?_;rintro e V6 ⟨rfl,ap,a7⟩;have Y:=a7.heap D (show¬b=p from A);obtain⟨-,-,-,-,-,-,aM,-⟩:=zc Y;have aT:=zw Y 6;have b0:=zd Y;have r:=xD (i:=6) Y (J K mn);have d:zi (fun q=>q=p\/q=b) W5 (V6.setCell (U b 6) (J K mn)):=(a7.mono (fun _ _ e=> .inl e)).trans (zi.setCell (f:=fun q=>q=b) (zi.refl _ _) (p:=(U b 6)) (fun _=>rfl) _) (fun _ _ e=> .inr e);have m:=ap.kept (zi.setCell (f:=fun q=>q=b) (zi.refl _ _) (p:=(U b 6)) (fun _=>rfl) (J K mn)) (fun e=>A e.symm) (fun e=>F e.symm);have u:=ze m;have z:=ze r;have y:=ze (l.trans d (fun _ _ e=>e));have s:=ze (o.trans d (fun _ hk e=>e.elim id (fun e=>absurd e (by omega))));clear C ap a7 D m r d o l ag;go_wp2_with fail;generalize B:V6.setCell (U b 6) (J K mn)=W6 at*;have C:=ud u;have D:=ud z;have o:=ud s;have l:=ud y;clear u z s y Y aM aT b0 B;have ah:=ze (zY C (n:=mx) (hw 7 _ (by rw[ud L];rfl)) (by unfold xz;omega) (-2147483648) 2147483647 (by omega) (by omega));refine(ud ah).mono ?_;rintro e V7 ⟨rfl,aq,a1⟩;have H:=a1.heap D (show¬b=p from A);obtain⟨-,-,-,-,-,-,-,b3,-⟩:=zc H;have b4:=zw H 7;have b6:=zd H;have r:=xD (i:=7) H (J K mx);have Z:=(l.trans (a1.mono (g:=fun q=>q=p\/q=b) (fun _ _ e=> .inl e)) (fun _ _ e=>e)).heap (ud aF) (fun e=>e.elim az ay);obtain⟨r0,r1,r2,r3,r4,r5,r6,r7⟩:=z8 Z;have rf:=fun j=>zw Z j;have rl:=zd Z;have aE:=ze Z;obtain⟨z0,z1,z2,z3,z4,z5,z6,z7⟩:=z8 H;clear Z;have d:zi (fun q=>q=p\/q=b) W6 (V7.setCell (U b 7) (J K mx)):=(a1.mono (fun _ _ e=> .inl e)).trans (zi.setCell (f:=fun q=>q=b) (zi.refl _ _) (p:=(U b 7)) (fun _=>rfl) _) (fun _ _ e=> .inr e);have m:=aq.kept (zi.setCell (f:=fun q=>q=b) (zi.refl _ _) (p:=(U b 7)) (fun _=>rfl) (J K mx)) (fun e=>A e.symm) (fun e=>F e.symm);have u:=ze m;have z:=ze r;have y:=ze l;have s:=ze (o.trans d (fun _ hk e=>e.elim id (fun e=>absurd e (by omega))));clear H C aq a1 D m r d o l ah;go_wp2_with fail;have b1:(V7.setCell (U b 7) (J K mx)).1[G]?=E (.cells #[I 0,I 0,I 0,I 0,I 0,I 0,J K 0,J K 0] 148 (0,0)):=(Below.heap_setCell _ _ _ _ (show G≠((U b 7):Addr).block from ay)).trans (ud aE);have hf:=zdH b1 (I (-1)) (I sr) (I wn) (I 1) (I cnt) (I sum) (J K mn) (J K mx);have aw:zi (fun q=>q=G) (V7.setCell (U b 7) (J K mx)) (((((((((V7.setCell (U b 7) (J K mx)).setCell (U G 0) (I (-1))).setCell (U G 1) (I sr)).setCell (U G 2) (I wn)).setCell (U G 3) (I 1)).setCell (U G 4) (I cnt)).setCell (U G 5) (I sum)).setCell (U G 6) (J K mn)).setCell (U G 7) (J K mx)):=(zg (zg (zg (zg (zg (zg (zg (zg (zi.refl _ _) rfl) rfl) rfl) rfl) rfl) rfl) rfl) rfl);refine bodyPost_ret (v:=.agg #[I (-1),I sr,I wn,I 1,I cnt,I sum,J K mn,J K mx]) (results_cell_row results201 _ _ G _ _ _ _ rfl hf underlying148 rfl (by kernel_rfl)) rfl ?_;exact⟨rfl,by rw[ud L];exact(ud u).kept aw (fun e=>az e.symm) (fun e=>absurd e (by omega)),(ud s).trans aw (fun _ hk e=>absurd e (by omega))⟩
theorem zgz(h:Yg w p g ws k)(c:Cf)(hc:c.ok)(a:Option Addr)(cap:Nat)(x:SX)(hx:rdX c x)(aC:x.2.st=3)(hw:∀j n,(ZV x)[j]?=E n->ws[k+j]?=E n):
  Calls prog 201 #[(O p),(cZz c a cap)] w fun e w'=>e=.returned (.agg (xZz x))/\Yg w' p g ws (k+(ZV x).length)/\zi (fun q=>q=p) w w':=by
 obtain⟨⟨t,sr,wn⟩,⟨st,⟨cnt,sum,mn,mx⟩⟩⟩:=x;obtain⟨ad,av,-⟩:=h.head;have pl:=zd av;have gl:=zd h.row;have b6:=hc.n4;obtain⟨t1,t2⟩:=hx.t;obtain⟨s1,s2⟩:=hx.sr;obtain⟨w1,w2⟩:=hx.wn;obtain⟨e1,e2⟩:=hx.st;have N:=hx.cel;have ax:=hx.no;have a0:=hx.raw;dsimp only at t1 t2 s1 s2 w1 w2 e1 e2 N ax a0 aC ⊢;subst aC;clear hx;have b7:¬t= -1:=by exact fun e=>absurd ((a0 (by omega)).2 e) (by omega)
 obtain⟨q1,q2,q3,⟨q4,q5⟩,q6,q7⟩:=N rfl;have aD:ZV (⟨t,sr,wn⟩,⟨3,⟨cnt,sum,mn,mx⟩⟩)=[t,sr,wn,3,cnt,sum,mn,mx]:=rfl;have L:=ze aD;clear N ax a0 aD e1 e2;obtain⟨y0,y1,y2,a8,hz⟩:=Jv w (.cells (aZz c a cap) 89) zaI zaI;have HT:=fun W=>ze (vp c a cap W);have ar:=h.kept (zi.of_below (f:=fun _=>False) a8) (fun e=>e) (fun e=>e);obtain⟨l0,-⟩:=zc y0;have a2:=ze a8;have ai:=ze ar;have Y2:=ze y2;have Y1:=ze y1;have HZ:=ze hz;clear h av a8 ar y0 y1 y2 l0 hz;go_enter func201,ntmps201;go_wp2_with fail;generalize(((w.alloc (.cells (aZz c a cap) 89)).alloc zaI).alloc zaI)=X at*;refine(ud (HT _)).mono ?_;rintro e X1 ⟨rfl,M⟩;have hz:=ud HZ;obtain⟨b,au⟩:∃b,w.1.size+1+1=b:=⟨_,rfl⟩;have D:X1.1[b]?=E (.cells #[I 0,I 0,I 0,I 0,I 0,I 0,J K 0,J K 0] 148 (0,0)):=by rw[<-au];exact(M.block _ (by omega)).trans (ud Y2)
 obtain⟨G,aA⟩:∃G,w.1.size+1=G:=⟨_,rfl⟩;have aB:X1.1[G]?=E (.cells #[I 0,I 0,I 0,I 0,I 0,I 0,J K 0,J K 0] 148 (0,0)):=by rw[<-aA];exact(M.block _ (by omega)).trans (ud Y1)
 have aF:=ze aB;have l:zi (fun q=>q=p\/q=b) X1 X1:=zi.refl _ _;have C:=(ud ai).kept (zi.of_below (f:=fun _=>False) M) (fun e=>e) (fun e=>e);have o:zi (fun q=>q=p) w X1:=zi.of_below ((ud a2).trans (M.mono (ud a2).size));have b4:=fun W=>Yy b W;have A:¬b=p:=by omega
 have F:¬b=g:=by omega
 rw[au,aA];have az:¬G=p:=by omega
 have ay:¬G=b:=by omega
 clear M HT ai Y1 Y2 a2 HZ aB;go_wp2_with fail;have a9:=ze (zY C (n:=t) (hw 0 _ (by rfl)) (by unfold xz;omega) (-1) (c.n-1) (by omega) (by omega));refine(ud a9).mono ?_;rintro e V0 ⟨rfl,aj,a3⟩;have P:=a3.heap D (show¬b=p from A);obtain⟨aH,-⟩:=zc P;have aN:=zw P 0;have aU:=zd P;have r:=xD (i:=0) P (I t);have d:zi (fun q=>q=p\/q=b) X1 (V0.setCell (U b 0) (I t)):=(a3.mono (fun _ _ e=> .inl e)).trans (zi.setCell (f:=fun q=>q=b) (zi.refl _ _) (p:=(U b 0)) (fun _=>rfl) _) (fun _ _ e=> .inr e);have m:=aj.kept (zi.setCell (f:=fun q=>q=b) (zi.refl _ _) (p:=(U b 0)) (fun _=>rfl) (I t)) (fun e=>A e.symm) (fun e=>F e.symm);have u:=ze m;have z:=ze r;have y:=ze (l.trans d (fun _ _ e=>e));have s:=ze (o.trans d (fun _ hk e=>e.elim id (fun e=>absurd e (by omega))));clear C aj a3 D m r d o l a9;go_wp2_with fail;generalize B:V0.setCell (U b 0) (I t)=W0 at*;have C:=ud u;have D:=ud z;have o:=ud s;have l:=ud y;clear u z s y P aH aN aU B;have aa:=ze (zY C (n:=sr) (hw 1 _ (by rfl)) (by unfold xz;omega) 0 3 (by omega) (by omega));refine(ud aa).mono ?_;rintro e V1 ⟨rfl,ak,hK1⟩;have Q:=hK1.heap D (show¬b=p from A);obtain⟨-,aI,-⟩:=zc Q;have aO:=zw Q 1;have aV:=zd Q;have r:=xD (i:=1) Q (I sr);have d:zi (fun q=>q=p\/q=b) W0 (V1.setCell (U b 1) (I sr)):=(hK1.mono (fun _ _ e=> .inl e)).trans (zi.setCell (f:=fun q=>q=b) (zi.refl _ _) (p:=(U b 1)) (fun _=>rfl) _) (fun _ _ e=> .inr e);have m:=ak.kept (zi.setCell (f:=fun q=>q=b) (zi.refl _ _) (p:=(U b 1)) (fun _=>rfl) (I sr)) (fun e=>A e.symm) (fun e=>F e.symm);have u:=ze m;have z:=ze r;have y:=ze (l.trans d (fun _ _ e=>e));have s:=ze (o.trans d (fun _ hk e=>e.elim id (fun e=>absurd e (by omega))));clear C ak hK1 D m r d o l aa;go_wp2_with fail;generalize B:V1.setCell (U b 1) (I sr)=W1 at*;have C:=ud u;have D:=ud z;have o:=ud s;have l:=ud y;clear u z s y Q aI aO aV B;have ab:=ze (zY C (n:=wn) (hw 2 _ (by rfl)) (by unfold xz;omega) 0 100000 (by omega) (by omega));refine(ud ab).mono ?_;rintro e V2 ⟨rfl,al,hK2⟩;have R:=hK2.heap D (show¬b=p from A);obtain⟨-,-,hc2,-⟩:=zc R;have aP:=zw R 2;have aW:=zd R;have r:=xD (i:=2) R (I wn);have d:zi (fun q=>q=p\/q=b) W1 (V2.setCell (U b 2) (I wn)):=(hK2.mono (fun _ _ e=> .inl e)).trans (zi.setCell (f:=fun q=>q=b) (zi.refl _ _) (p:=(U b 2)) (fun _=>rfl) _) (fun _ _ e=> .inr e);have m:=al.kept (zi.setCell (f:=fun q=>q=b) (zi.refl _ _) (p:=(U b 2)) (fun _=>rfl) (I wn)) (fun e=>A e.symm) (fun e=>F e.symm);have u:=ze m;have z:=ze r;have y:=ze (l.trans d (fun _ _ e=>e));have s:=ze (o.trans d (fun _ hk e=>e.elim id (fun e=>absurd e (by omega))));clear C al hK2 D m r d o l ab;go_wp2_with fail;generalize B:V2.setCell (U b 2) (I wn)=W2 at*;have C:=ud u;have D:=ud z;have o:=ud s;have l:=ud y;clear u z s y R hc2 aP aW B;have ac:=ze (zY C (n:=3) (hw 3 _ (by rfl)) (by unfold xz;omega) 1 4 (by omega) (by omega));refine(ud ac).mono ?_;rintro e V3 ⟨rfl,am,a4⟩;have S:=a4.heap D (show¬b=p from A);obtain⟨-,-,-,aJ,-⟩:=zc S;have aQ:=zw S 3;have aX:=zd S;have r:=xD (i:=3) S (I 3);have d:zi (fun q=>q=p\/q=b) W2 (V3.setCell (U b 3) (I 3)):=(a4.mono (fun _ _ e=> .inl e)).trans (zi.setCell (f:=fun q=>q=b) (zi.refl _ _) (p:=(U b 3)) (fun _=>rfl) _) (fun _ _ e=> .inr e);have m:=am.kept (zi.setCell (f:=fun q=>q=b) (zi.refl _ _) (p:=(U b 3)) (fun _=>rfl) (I 3)) (fun e=>A e.symm) (fun e=>F e.symm);have u:=ze m;have z:=ze r;have y:=ze (l.trans d (fun _ _ e=>e));have s:=ze (o.trans d (fun _ hk e=>e.elim id (fun e=>absurd e (by omega))));clear C am a4 D m r d o l ac;go_wp2_with fail;refine(kq 3 _).mono ?_;rintro e U9 ⟨rfl,aG⟩;subst aG;generalize B:V3.setCell (U b 3) (I 3)=W3 at*;have C:=ud u;have D:=ud z;have o:=ud s;have l:=ud y;clear u z s y S aJ aQ aX B;go_wp2_with fail;have ae:=ze (zY C (n:=cnt) (hw 4 _ (by rw[ud L];rfl)) (by unfold xz;omega) 1 2147483647 (by omega) (by omega));refine(ud ae).mono ?_;rintro e V4 ⟨rfl,an,a5⟩;have T:=a5.heap D (show¬b=p from A);obtain⟨-,-,-,-,aK,-⟩:=zc T;have aR:=zw T 4;have aY:=zd T;have r:=xD (i:=4) T (I cnt);have d:zi (fun q=>q=p\/q=b) W3 (V4.setCell (U b 4) (I cnt)):=(a5.mono (fun _ _ e=> .inl e)).trans (zi.setCell (f:=fun q=>q=b) (zi.refl _ _) (p:=(U b 4)) (fun _=>rfl) _) (fun _ _ e=> .inr e);have m:=an.kept (zi.setCell (f:=fun q=>q=b) (zi.refl _ _) (p:=(U b 4)) (fun _=>rfl) (I cnt)) (fun e=>A e.symm) (fun e=>F e.symm);have u:=ze m;have z:=ze r;have y:=ze (l.trans d (fun _ _ e=>e));have s:=ze (o.trans d (fun _ hk e=>e.elim id (fun e=>absurd e (by omega))));clear C an a5 D m r d o l ae;go_wp2_with fail;generalize B:V4.setCell (U b 4) (I cnt)=W4 at*;have C:=ud u;have D:=ud z;have o:=ud s;have l:=ud y;clear u z s y T aK aR aY B;have af:=ze (zY C (n:=sum) (hw 5 _ (by rw[ud L];rfl)) (by exact q3) (-9223372036854775808) 9223372036854775807 (by exact q3.1) (by exact q3.2));refine(ud af).mono ?_;rintro e V5 ⟨rfl,ao,a6⟩;have V:=a6.heap D (show¬b=p from A);obtain⟨-,-,-,-,-,aL,-⟩:=zc V;have aS:=zw V 5;have aZ:=zd V;have r:=xD (i:=5) V (I sum);have d:zi (fun q=>q=p\/q=b) W4 (V5.setCell (U b 5) (I sum)):=(a6.mono (fun _ _ e=> .inl e)).trans (zi.setCell (f:=fun q=>q=b) (zi.refl _ _) (p:=(U b 5)) (fun _=>rfl) _) (fun _ _ e=> .inr e);have m:=ao.kept (zi.setCell (f:=fun q=>q=b) (zi.refl _ _) (p:=(U b 5)) (fun _=>rfl) (I sum)) (fun e=>A e.symm) (fun e=>F e.symm);have u:=ze m;have z:=ze r;have y:=ze (l.trans d (fun _ _ e=>e));have s:=ze (o.trans d (fun _ hk e=>e.elim id (fun e=>absurd e (by omega))));clear C ao a6 D m r d o l af;go_wp2_with fail;generalize B:V5.setCell (U b 5) (I sum)=W5 at*;have C:=ud u;have D:=ud z;have o:=ud s;have l:=ud y;clear u z s y V aL aS aZ B;have ag:=ze (zY C (n:=mn) (hw 6 _ (by rw[ud L];rfl)) (by unfold xz;omega) (-2147483648) 2147483647 (by omega) (by omega));refine(ud ag).mono ?_;rintro e V6 ⟨rfl,ap,a7⟩;have Y:=a7.heap D (show¬b=p from A);obtain⟨-,-,-,-,-,-,aM,-⟩:=zc Y;have aT:=zw Y 6;have b0:=zd Y;have r:=xD (i:=6) Y (J K mn);have d:zi (fun q=>q=p\/q=b) W5 (V6.setCell (U b 6) (J K mn)):=(a7.mono (fun _ _ e=> .inl e)).trans (zi.setCell (f:=fun q=>q=b) (zi.refl _ _) (p:=(U b 6)) (fun _=>rfl) _) (fun _ _ e=> .inr e);have m:=ap.kept (zi.setCell (f:=fun q=>q=b) (zi.refl _ _) (p:=(U b 6)) (fun _=>rfl) (J K mn)) (fun e=>A e.symm) (fun e=>F e.symm);have u:=ze m;have z:=ze r;have y:=ze (l.trans d (fun _ _ e=>e));have s:=ze (o.trans d (fun _ hk e=>e.elim id (fun e=>absurd e (by omega))));clear C ap a7 D m r d o l ag;go_wp2_with fail;generalize B:V6.setCell (U b 6) (J K mn)=W6 at*;have C:=ud u;have D:=ud z;have o:=ud s;have l:=ud y;clear u z s y Y aM aT b0 B;have ah:=ze (zY C (n:=mx) (hw 7 _ (by rw[ud L];rfl)) (by unfold xz;omega) (-2147483648) 2147483647 (by omega) (by omega));refine(ud ah).mono ?_;rintro e V7 ⟨rfl,aq,a1⟩;have H:=a1.heap D (show¬b=p from A);obtain⟨-,-,-,-,-,-,-,b2,-⟩:=zc H;have b3:=zw H 7;have b5:=zd H;have r:=xD (i:=7) H (J K mx);have Z:=(l.trans (a1.mono (g:=fun q=>q=p\/q=b) (fun _ _ e=> .inl e)) (fun _ _ e=>e)).heap (ud aF) (fun e=>e.elim az ay);obtain⟨r0,r1,r2,r3,r4,r5,r6,r7⟩:=z8 Z;have rf:=fun j=>zw Z j;have rl:=zd Z;have aE:=ze Z;obtain⟨z0,z1,z2,z3,z4,z5,z6,z7⟩:=z8 H;clear Z;have d:zi (fun q=>q=p\/q=b) W6 (V7.setCell (U b 7) (J K mx)):=(a1.mono (fun _ _ e=> .inl e)).trans (zi.setCell (f:=fun q=>q=b) (zi.refl _ _) (p:=(U b 7)) (fun _=>rfl) _) (fun _ _ e=> .inr e);have m:=aq.kept (zi.setCell (f:=fun q=>q=b) (zi.refl _ _) (p:=(U b 7)) (fun _=>rfl) (J K mx)) (fun e=>A e.symm) (fun e=>F e.symm);have u:=ze m;have z:=ze r;have y:=ze l;have s:=ze (o.trans d (fun _ hk e=>e.elim id (fun e=>absurd e (by omega))));clear H C aq a1 D m r d o l ah;go_wp2_with fail;have b1:(V7.setCell (U b 7) (J K mx)).1[G]?=E (.cells #[I 0,I 0,I 0,I 0,I 0,I 0,J K 0,J K 0] 148 (0,0)):=(Below.heap_setCell _ _ _ _ (show G≠((U b 7):Addr).block from ay)).trans (ud aE);have hf:=zdH b1 (I t) (I sr) (I wn) (I 3) (I cnt) (I sum) (J K mn) (J K mx);have aw:zi (fun q=>q=G) (V7.setCell (U b 7) (J K mx)) (((((((((V7.setCell (U b 7) (J K mx)).setCell (U G 0) (I t)).setCell (U G 1) (I sr)).setCell (U G 2) (I wn)).setCell (U G 3) (I 3)).setCell (U G 4) (I cnt)).setCell (U G 5) (I sum)).setCell (U G 6) (J K mn)).setCell (U G 7) (J K mx)):=(zg (zg (zg (zg (zg (zg (zg (zg (zi.refl _ _) rfl) rfl) rfl) rfl) rfl) rfl) rfl) rfl);refine bodyPost_ret (v:=.agg #[I t,I sr,I wn,I 3,I cnt,I sum,J K mn,J K mx]) (results_cell_row results201 _ _ G _ _ _ _ rfl hf underlying148 rfl (by kernel_rfl)) rfl ?_;exact⟨rfl,by rw[ud L];exact(ud u).kept aw (fun e=>az e.symm) (fun e=>absurd e (by omega)),(ud s).trans aw (fun _ hk e=>absurd e (by omega))⟩
end Go.Proofs.YtndhpgciopcncaaGreatDoor
