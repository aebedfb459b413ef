import Derived.Test.YtndhpgciopcncaaGreatDoorVMlz3
import Derived.Test.YtndhpgciopcncaaGreatDoorVMlz5
import Derived.Test.YtndhpgciopcncaaGreatDoorVJbs0
import Derived.Shelf.SlSortCmp.NoneTotal
import Derived.Deep.RegionHeld3
import Derived.StillTactics
open Go.Value renaming int → I
open Go.IntKind renaming i64 → O
open Option renaming none → E
open Option renaming some → Y
open Go renaming World → Z
open Go.RowKit renaming Below → G
open Go.RowKit.Below renaming refl → P
open Go renaming Value → C
open Nat renaming le_refl → r
open Nat renaming lt_of_lt_of_le → z7
open Nat renaming le_trans → Zq3
open Go.IntKind (i32)
set_option linter.unusedVariables false
set_option maxRecDepth 100000
set_option maxHeartbeats 8000000
open Go.Proofs.Tryz
namespace Go.Proofs.YtndhpgciopcncaaGreatDoor
open Go.RowKit Go.Maps Go.Shelf
theorem Ku{w:Z}{i:Ids}{c:Cf}{ep:Int}{m:MS}(h:zA w i c ep m)(t:Tok)(b:t.wf)(a:zY m.QL t=E):
  Calls prog 20 #[.pointer (Y ⟨i.x,0,E⟩),.agg #[I O t.ep,I O t.num]] w fun e w'=>e=.returned (I O 8)/\G w.1.size w w':=
 zaE h.own t b a
theorem zcQ{w:Z}{i:Ids}{c:Cf}{ep:Int}{m:MS}(h:zA w i c ep m)(t:Tok)(b:t.wf)(a:zY m.QL t=E):
  Calls prog 21 #[.pointer (Y ⟨i.x,0,E⟩),.agg #[I O t.ep,I O t.num]] w fun e w'=>e=.returned (I O 8)/\G w.1.size w w':=
 zfp h.own t b a
theorem zdv{w:Z}{i:Ids}{c:Cf}{ep:Int}{m:MS}(h:zA w i c ep m)(n:Int)(hn:n<1\/1000<n\/100000<m.now+n)(a:0<=m.now/\m.now<=100000):
  Calls prog 26 #[.pointer (Y ⟨i.x,0,E⟩),I O n] w fun e w'=>e=.returned (I O 5)/\G w.1.size w w':=
 zbe h.own n hn a
theorem KU{w:Z}{i:Ids}{c:Cf}{ep:Int}{m:MS}(h:zA w i c ep m)(p:c.ok)(sr tm val:Int)(b:0<=sr/\sr<4)(o:0<=tm/\tm<=m.now)(g:m.now-c.la<=tm)(a:m.now<=100000)(d: -2147483648<=val/\val<=2147483647)(q:0<=zm m.L/\zm m.L<=1000)(l:ziK m.L)(j:∀k:Nat,k<c.n->zY m.Gl (xX c sr tm k)=E)(f:c.qu<zm m.L+(1+2*yk c m.L ⟨sr,tm,val⟩ c.n)):
  Calls prog 27 #[.pointer (Y ⟨i.x,0,E⟩),I O sr,I O tm,I i32 val] w fun e w'=>e=.returned (I O 4)/\G w.1.size w w':=
 zbd h.own p sr tm val b o g a d q l j f
theorem xI{w:Z}{i:Ids}{c:Cf}{ep:Int}{m:MS}(h:zA w i c ep m)(b:c.ok)(d:0<=zm m.L/\zm m.L<=1000)(a:m.L.length<=100000):
  Calls prog 15 #[.pointer (Y ⟨i.x,0,E⟩)] w fun e w'=>e=.returned (.agg #[I O m.now,I O (zm m.L),I O (zU (zO (zm m.L) c.qu)),I O ep,I O (ze m.L 1),I O (ze m.L 2),I O (ze m.L 3),I O m.Gl.length])/\G w.1.size w w':=
 zid h.own b d a
theorem yS{w:Z}{i:Ids}{c:Cf}{ep:Int}{m:MS}(h:zA w i c ep m)(f:c.ok)(a:0<=m.now/\m.now<=100000)(t sr wa:Int)(g: -1<=t/\t<c.n)(b:0<=sr/\sr<4)(d:0<=wa/\wa<=100000):
  Calls prog 57 #[.pointer (Y ⟨i.x,0,E⟩),I O t,I O sr,I O wa] w fun e w'=>e=.returned (.tuple #[.agg #[I O (xK c m.now m.Gl m.L t sr wa).1.cnt,I O (xK c m.now m.Gl m.L t sr wa).1.sum,I i32 (xK c m.now m.Gl m.L t sr wa).1.mn,I i32 (xK c m.now m.Gl m.L t sr wa).1.mx],I O (xK c m.now m.Gl m.L t sr wa).2])/\G w.1.size w w':=
 zic h.own f a t sr wa g b d
theorem KV{w:Z}{i:Ids}{c:Cf}{ep:Int}{m:MS}(h:zA w i c ep m)(d:(m.QL.map (fun q=>q.2.job)).Nodup)(b:m.TL.length<=1000000):
  Calls prog 19 #[.pointer (Y ⟨i.x,0,E⟩)] w fun e w'=>∃ts a cap,Za m.TL ts/\e=.returned (.slice a ts.length cap)/\w'.ownsRow w.1.size 51 11 (.slice a ts.length cap) ts.length (ts.flatMap (vU m.QL))/\G w.1.size w w':=
 zjF h.own d b
theorem QX{w:Z}{i:Ids}{c:Cf}{ep:Int}{m:MS}(h:zA w i c ep m)(l:c.ok)(n:Int)(hn:1<=n/\n<=1000)(g:0<=m.now/\m.now+n<=100000)(z:zgL 1000000 100000 m.TL m.QL)(B:∀p∈m.L,inR c p.1)(j:m.L.length<=2000)(o:∀a k,VR (m.now+n) m.TL m.QL a k->a.length<=50000):
  Calls prog 26 #[.pointer (Y ⟨i.x,0,E⟩),I O n] w fun e w'=>e=.returned (I O 0)/\∃d b a,zA w' i c ep {m with now:=m.now+n,TL:=a,QL:=b}/\Kx i w w'/\VR (m.now+n) m.TL m.QL d b/\(∀p∈b,m.now+n<p.2.til)/\yd c {m with now:=m.now+n,TL:=d,QL:=b} a:=by
 obtain⟨q,txt,ns,f⟩:=h
 obtain⟨J,K⟩:=f.lens l
 refine(zjH f.at_ l n hn g z B j o f.hist.okA (by omega) _ (by omega) f.dok ⟨f.st.1,by have:=f.st.2;omega⟩).mono ?_
 rintro e w' ⟨F,A⟩
 rcases F with⟨s,_⟩|⟨_,H,M,d,b,a,y,D,t,v,u⟩
 ·rw[f.lay]at s;cases s
 ·exact⟨H,d,b,a,f.after l (.ticked m ns n d a b hn.1 g.2 t v u) (by simp) rfl rfl rfl y D,A,t,v,u⟩
theorem JY(l:List Int):xg (kq l):=by rw[zeL];unfold xg wrap64;omega
theorem JU(b:Cl->Cl->Int):∀(l:List Cl) (o:Option Cl) (z:Cl),l.foldl (kL b) o=Y z->o=Y z\/z∈l
 |[],o,z,h=> .inl h
 |x::l,o,z,h=>by
  rcases JU b l _ z h with a|a
  ·unfold kL at a
   split at a
   ·injection a with a;exact .inr (by simp[a])
   ·split at a
    ·injection a with a;exact .inr (by simp[a])
    ·injection a with a;exact .inl (by rw[a])
  ·exact .inr (by simp[a])
theorem zaa{zs:List Cl}(h:∀z∈zs,(-2147483648<=z.mn/\z.mn<=2147483647)/\(-2147483648<=z.mx/\z.mx<=2147483647))(a:Cl->Cl->Int):(-2147483648<=((qt a zs).getD qc).mn/\((qt a zs).getD qc).mn<=2147483647)/\(-2147483648<=((qt a zs).getD qc).mx/\((qt a zs).getD qc).mx<=2147483647):=by
 cases c:qt a zs with
 |none=>show((-2147483648:Int)<=0/\(0:Int)<=2147483647)/\((-2147483648:Int)<=0/\(0:Int)<=2147483647);omega
 |some z=>
  rcases JU a zs E z c with b|b
  ·cases b
  ·exact h z b
theorem zeg{c:Cf}{L:LV}{sr wa:Int}{k:Nat}{z:Cl}(h:z∈xp c L sr wa k):∃p∈L,p.2.cl=z:=by
 unfold xp ql at h
 obtain⟨j,_,a⟩:=List.mem_filterMap.1 h
 cases b:yA L ⟨c.F k,sr,wa*xM c k+(j:Int)⟩with
 |none=>rw[b]at a;cases a
 |some v=>rw[b]at a;injection a with a;exact⟨_,kz b,a⟩
theorem zig{c:Cf}{L:LV}{Gl:List (Sg×Unit)}(h:∀x∈Zy L Gl,okX x)(s:Sg)(d:s.wf)(sr wa:Int)(k:Nat):okX (s,⟨3,xz (xp c L sr wa k)⟩):=by
 have a:∀z∈xp c L sr wa k,(-2147483648<=z.mn/\z.mn<=2147483647)/\(-2147483648<=z.mx/\z.mx<=2147483647):=fun z e=>by
  obtain⟨p,b,rfl⟩:=zeg e
  have:=h p (List.mem_append_left _ b)
  exact⟨this.mn,this.mx⟩
 exact⟨d,by show xg 3;unfold xg;omega,JY _,JY _,(zaa a Q5).1,(zaa a Q6).2⟩
theorem KZ(s:Sg)(a:s.wf)(st:Int)(b:0<=st/\st<=9):okX (s,⟨st,qc⟩):=
 ⟨a,by show xg st;unfold xg;omega,by show xg 0;unfold xg;omega,by show xg 0;unfold xg;omega,by show(-2147483648:Int)<=0/\(0:Int)<=2147483647;omega,by show(-2147483648:Int)<=0/\(0:Int)<=2147483647;omega⟩
theorem zdA{c:Cf}{ep:Int}{m:MS}(d:c.ok)(q:MOk c ep m)(g:∀x∈Zy m.L m.Gl,okX x){sr tm val:Int}(b:0<=sr/\sr<4)(h:0<=tm/\tm<=100000)(a: -2147483648<=val/\val<=2147483647):(∀x∈yZ c m.Gl m.L ⟨sr,tm,val⟩,okX x)/\(yZ c m.Gl m.L ⟨sr,tm,val⟩).length<=1000:=by
 have w:=d.n1
 have y:=d.n4
 have hin:=fun(t:Int) (i: -1<=t) (p:t<c.n)=>zdW d (x:=⟨sr,tm,val⟩) b h i p
 refine⟨fun x f=>?_,?_⟩
 ·rcases List.mem_cons.1 f with rfl|f
  ·have l:=(hin (-1) (by omega) (by omega)).1
   unfold zgY
   cases k:yA m.L (xk c ⟨sr,tm,val⟩)with
   |none=>exact⟨l,by show xg 1;unfold xg;omega,by show xg 1;unfold xg;omega,by show xg val;unfold xg;omega,a,a⟩
   |some v=>
    obtain⟨_,B,D,F,H⟩:=MOk.rawAt q.seg d k
    have o:=g _ (List.mem_append_left _ (kz k))
    have z:=o.mn;have A:=o.mx
    dsimp only at z A
    refine⟨l,by show xg 1;unfold xg;omega,by show xg (1+v.cl.cnt);unfold xg;omega,by show xg (val+v.cl.sum);unfold xg;omega,?_,?_⟩
    ·show-2147483648<=(if v.cl.mn<val then v.cl.mn else val)/\(if v.cl.mn<val then v.cl.mn else val)<=2147483647
     split<;>omega
    ·show-2147483648<=(if val<v.cl.mx then v.cl.mx else val)/\(if val<v.cl.mx then v.cl.mx else val)<=2147483647
     split<;>omega
  ·unfold XY at f
   obtain⟨s,e,rfl⟩:=List.mem_map.1 f
   have e:=(List.mem_filter.1 e).1
   unfold qi at e
   obtain⟨j,u,rfl⟩:=List.mem_map.1 e
   exact KZ _ (hin (j:Int) (by omega) (by have:=List.mem_range.1 u;omega)).1 2 (by omega)
 ·have i:(XY c m.Gl m.L ⟨sr,tm,val⟩ c.n).length<=c.n:=by
   unfold XY
   rw[List.length_map]
   refine Zq3 (List.length_filter_le _ _) ?_
   unfold qi;simp
  show(zgY c m.L ⟨sr,tm,val⟩::XY c m.Gl m.L ⟨sr,tm,val⟩ c.n).length<=1000
  rw[List.length_cons];omega
theorem Ji{w:Z}{i:Ids}{c:Cf}{ep:Int}{m:MS}(h:zA w i c ep m)(j:c.ok)(sr tm val:Int)(a:0<=sr/\sr<4)(f:0<=tm/\tm<=m.now)(o:m.now-c.la<=tm)(u:m.now<=100000)(b: -2147483648<=val/\val<=2147483647)(V:0<=zm m.L/\zm m.L<=1000)(v:ziK m.L)(s:∀k:Nat,k<c.n->zY m.Gl (xX c sr tm k)=E)(l:zm m.L+(1+2*yk c m.L ⟨sr,tm,val⟩ c.n)<=c.qu)(D:m.L.length<=1000000)(F:∀p∈m.L,p.1.t= -1->p.2.cl.small):
  Calls prog 27 #[.pointer (Y ⟨i.x,0,E⟩),I O sr,I O tm,I i32 val] w fun e w'=>e=.returned (I O 0)/\zA w' i c ep {m with L:=kN c m.L ⟨sr,tm,val⟩}/\Kx i w w':=by
 obtain⟨q,txt,ns,d⟩:=h
 obtain⟨T,U⟩:=d.lens j
 have Q:=d.hist.sok j
 obtain⟨g,H⟩:=zdA j Q.ok d.hist.okA a ⟨f.1,by omega⟩ b
 have B:=zbr (c:=c) (Gl:=m.Gl) (L:=m.L) (x:=⟨sr,tm,val⟩) v s
 refine(zku d.at_ j sr tm val a f o u b V v s l F g (Zn _ _ _ d.hist.okA g) H (by omega) (by omega) _ (by omega) d.dok ⟨d.st.1,by have:=d.st.2;omega⟩).mono ?_
 rintro e w' ⟨R,K⟩
 obtain⟨S,W,J,N⟩:=kn R (d.lay _)
 have A:m.took m.now (yZ c m.Gl m.L ⟨sr,tm,val⟩)={m with L:=kN c m.L ⟨sr,tm,val⟩}:=by unfold MS.took;rw[B]
 have M:({m with L:=kN c m.L ⟨sr,tm,val⟩}:MS).L=(m.took m.now (yZ c m.Gl m.L ⟨sr,tm,val⟩)).L:=by rw[A]
 have y:({m with L:=kN c m.L ⟨sr,tm,val⟩}:MS).Gl=(m.took m.now (yZ c m.Gl m.L ⟨sr,tm,val⟩)).Gl:=by rw[A]
 have z:zP w' i c ep {m with L:=kN c m.L ⟨sr,tm,val⟩} W:=by rw[<-A];exact N
 exact⟨S,d.after j (.added m ns ⟨sr,tm,val⟩ a f o b l) g rfl M y J z,K⟩
theorem zfq{w:Z}{i:Ids}{c:Cf}{ep:Int}{m:MS}(h:zA w i c ep m)(t:Tok)(u:t.wf){g:Lse}(j:zY m.QL t=Y g)(p:g.job.wf){x:Tsk}(k:zY m.TL g.job=Y x)(a:0<=m.now/\m.now<=100000)(f:0<=x.ti/\x.ti<=1000000)(d:m.TL.length<=50000):
  Calls prog 21 #[.pointer (Y ⟨i.x,0,E⟩),.agg #[I O t.ep,I O t.num]] w fun e w'=>e=.returned (I O 0)/\zA w' i c ep {m with TL:=qr m.TL g.job (x.failed m.now),QL:=xq m.QL t}/\Kx i w w':=by
 obtain⟨q,txt,ns,b⟩:=h
 have s:xA false w i c ep m:=by have:=b.at_.own;rw[b.up]at this;exact this
 refine(zcR s t u j p k a f d).mono ?_
 rintro e w' ⟨o,n,l⟩
 exact⟨o,b.quiet (.failed m ns t g x j k) rfl rfl rfl n l⟩
theorem KW{w:Z}{i:Ids}{c:Cf}{ep:Int}{m:MS}(h:zA w i c ep m)(o:c.ok)(slot:Int)(n:0<=slot/\slot<c.s)(f:0<=m.now/\m.now<=100000)(B:∀p∈m.TL,Xs c m.now p.2)(l:m.QL.length<=100000)(g:0<=m.num/\m.num<=1000000000000000)(k:xg ep)(H:∀q∈m.QL,q.1.num<=m.num)(J:0<=zm m.L/\zm m.L<=1000):
  Calls prog 18 #[.pointer (Y ⟨i.x,0,E⟩),I O slot] w fun e w'=>(e=.returned (.tuple #[zdy,I O 6])/\G w.1.size w w'/\m.QL.any (fun p=>p.2.slot==slot)=true)\/(e=.returned (.tuple #[zdy,I O 7])/\G w.1.size w w'/\∀p∈m.TL,kG m.QL m.now p.2=false)\/∃p,p∈m.TL/\kG m.QL m.now p.2=true/\e=.returned (.tuple #[.agg #[I O p.2.kd,I O p.2.s.t,I O p.2.s.sr,I O p.2.s.wa,I O p.2.se,I O p.2.ti,I O p.2.rest,I O ep,I O (m.num+1),I O slot,I O (m.now+c.le)],I O 0])/\zA w' i c ep {m with num:=m.num+1,QL:=qr m.QL ⟨ep,m.num+1⟩ ⟨p.2.kd,p.2.s,slot,m.now+c.le⟩}/\Kx i w w':=by
 obtain⟨q,txt,ns,j⟩:=h
 have A:=j.hist.sok o
 have D:xA false w i c ep m:=by have:=j.at_.own;rw[j.up]at this;exact this
 refine(zjG D o slot n f B (fun p F=>(A.ok.td p F).key) l g k J).mono ?_
 rintro e w' (⟨a,b,d⟩|⟨a,b,d,u⟩|⟨a,_⟩|⟨p,a,b,d,u,_,v,y,z⟩)
 ·exact .inl ⟨a,b,d⟩
 ·exact .inr (.inl ⟨a,b,d⟩)
 ·cases a
 ·exact .inr (.inr ⟨p,b,d,v,j.quiet (.taken m ns p slot b d) rfl rfl rfl y z⟩)
theorem XC{w:Z}{i:Ids}{c:Cf}{ep:Int}{m:MS}(h:zA w i c ep m)(n:c.ok)(t:Tok)(ht:t.wf){g:Lse}(F:zY m.QL t=Y g)(X:g.job.wf)(s:Sg)(se ti rest:Int)(M:zY m.TL g.job=Y ⟨true,s,se,ti,rest⟩)(K:inR c s)(k:Nat)(H:s.t=k)(J:m.L.length<=1000)(V:m.Gl.length<=1000000000)
  (o:∀p∈ya m.L s ⟨3,xz (xp c m.L s.sr s.wa k)⟩,inR c p.1) (d:(ya m.L s ⟨3,xz (xp c m.L s.sr s.wa k)⟩).length<=2000) (l:0<=m.now/\m.now<=100000) (A:m.TL.length<=50000):
  Calls prog 20 #[.pointer (Y ⟨i.x,0,E⟩),.agg #[I O t.ep,I O t.num]] w fun e w'=>e=.returned (I O 0)/\∃a,zA w' i c ep {m with L:=ya m.L s ⟨3,xz (xp c m.L s.sr s.wa k)⟩,Gl:=m.Gl,TL:=a,QL:=xq m.QL t}/\Kx i w w'/\yd c {m with L:=ya m.L s ⟨3,xz (xp c m.L s.sr s.wa k)⟩,Gl:=m.Gl,TL:=xq m.TL g.job,QL:=xq m.QL t} a:=by
 obtain⟨q,txt,ns,b⟩:=h
 obtain⟨a0,a1⟩:=b.lens n
 have j:∀y∈([(s,⟨3,xz (xp c m.L s.sr s.wa k)⟩)]:List SX),okX y:=fun y N=>by
  rw[List.mem_singleton]at N;subst N;exact zig b.hist.okA s K.1 _ _ _
 have v:m.took m.now [(s,⟨3,xz (xp c m.L s.sr s.wa k)⟩)]={m with L:=ya m.L s ⟨3,xz (xp c m.L s.sr s.wa k)⟩,Gl:=m.Gl}:=by unfold MS.took yC;simp only[List.foldl_cons,List.foldl_nil];unfold Xe;rfl
 have f:(m.took m.now [(s,⟨3,xz (xp c m.L s.sr s.wa k)⟩)]).L=ya m.L s ⟨3,xz (xp c m.L s.sr s.wa k)⟩:=by rw[v]
 have z:(m.took m.now [(s,⟨3,xz (xp c m.L s.sr s.wa k)⟩)]).Gl=m.Gl:=by rw[v]
 refine(zcG b.at_ n t ht F X _ M [(s,⟨3,xz (xp c m.L s.sr s.wa k)⟩)] (fun W T=>zd (zcL (b.at_.later T).own n s K k H)) l A j (Zn _ _ _ b.hist.okA j) (by simp) (by omega) (by omega) _ (by omega) b.dok ⟨b.st.1,by have:=b.st.2;omega⟩ (by rw[f];exact o) (by rw[f];exact d)).mono ?_
 rintro e w' ⟨S,R⟩
 rcases S with⟨B,_⟩|⟨_,U,q',a,Q,D,u⟩
 ·rw[b.lay]at B;cases B
 ·rw[v]at D u
  exact⟨U,a,b.after n (.rolled m ns t g s se ti rest k a F M H u) j rfl f.symm z.symm Q D,R,u⟩
theorem jz{w:Z}{i:Ids}{c:Cf}{ep:Int}{m:MS}(h:zA w i c ep m)(o:c.ok)(t:Tok)(ht:t.wf){g:Lse}(D:zY m.QL t=Y g)(T:g.job.wf)(s:Sg)(se ti rest:Int)(H:zY m.TL g.job=Y ⟨false,s,se,ti,rest⟩)(X:inR c s)(F:m.L.length<=1000)(S:m.Gl.length<=1000000000)
  (l:∀p∈xq m.L s,inR c p.1) (d:(xq m.L s).length<=2000) (k:0<=m.now/\m.now<=100000) (z:m.TL.length<=50000):
  Calls prog 20 #[.pointer (Y ⟨i.x,0,E⟩),.agg #[I O t.ep,I O t.num]] w fun e w'=>e=.returned (I O 0)/\∃a,zA w' i c ep {m with L:=xq m.L s,Gl:=qr m.Gl s (),TL:=a,QL:=xq m.QL t}/\Kx i w w'/\yd c {m with L:=xq m.L s,Gl:=qr m.Gl s (),TL:=xq m.TL g.job,QL:=xq m.QL t} a:=by
 obtain⟨q,txt,ns,b⟩:=h
 obtain⟨U,V⟩:=b.lens o
 have j:∀y∈([(s,⟨4,qc⟩)]:List SX),okX y:=fun y J=>by
  rw[List.mem_singleton]at J;subst J;exact KZ s X.1 4 (by omega)
 have u:m.took m.now [(s,⟨4,qc⟩)]={m with L:=xq m.L s,Gl:=qr m.Gl s ()}:=by unfold MS.took yC;simp only[List.foldl_cons,List.foldl_nil];unfold Xe;rfl
 have f:(m.took m.now [(s,⟨4,qc⟩)]).L=xq m.L s:=by rw[u]
 have v:(m.took m.now [(s,⟨4,qc⟩)]).Gl=qr m.Gl s ():=by rw[u]
 refine(zcG b.at_ o t ht D T _ H [(s,⟨4,qc⟩)] (fun W Q=>zd (zcK (b.at_.later Q).own s)) k z j (Zn _ _ _ b.hist.okA j) (by simp) (by omega) (by omega) _ (by omega) b.dok ⟨b.st.1,by have:=b.st.2;omega⟩ (by rw[f];exact l) (by rw[f];exact d)).mono ?_
 rintro e w' ⟨N,M⟩
 rcases N with⟨A,_⟩|⟨_,R,q',a,K,B,n⟩
 ·rw[b.lay]at A;cases A
 ·rw[u]at B n
  exact⟨R,a,b.after o (.reclaimed m ns t g s se ti rest a D H n) j rfl f.symm v.symm K B,M,n⟩
theorem Y8{w:Z}{base size n:Nat}{e:TypeId}{v:C}{xs:List C}(h:w.ownsRow base e size v n xs):w.ownsRow 0 e size v n xs:=yu h (Nat.zero_le _)
theorem zfQ{U:Z}{c:Cf}{ep:Int}{m d a l h g j p:Nat}{tv fs:C}{S:DS}(x:xt U m c tv d a [] [])(v:zy U l c tv ep 0 h g [] [])(n:JAt U j p 0 S fs)(q:Zz U)(t:d≠h)(u:d≠g)(a3:a≠h)(a4:a≠g)(hn:∀k,(vr m tv d a k\/vA l h g k\/vM j p fs k)->k≠Qm):
  zP (U.alloc (.cells #[I O c.s,I O c.le,I O c.la,I O c.wi,I O c.ke,I O c.qu,tv,I O ep,I O 0,.pointer (Y ⟨m,0,E⟩),.pointer (Y ⟨l,0,E⟩),.pointer (Y ⟨j,0,E⟩),.bool false] 94)) ⟨U.1.size,m,d,a,l,h,g,tv,j,p⟩ c ep ms0 ⟨0,S,false⟩:=by
 have b:∀o,G U.1.size U (U.alloc o):=fun o=>(P _ _).alloc (r _) _
 have i:=fun o=>(⟨(((b o).block _ (za n.head)).trans n.head),n.disk.later (b o)⟩:JAt (U.alloc o) j p 0 S fs)
 refine⟨zk _ _,x.kept (zo.of_below (f:=fun _=>False) (b _)) (fun _ _ e=>e),v.later (b _),⟨fs,i _⟩,vx q (b _),t,u,a3,a4,fun k w=>?_⟩
 rcases w with(e|e|e|e|e)|e
 ·have z:=q.lt
  have y:k=U.1.size:=e
  omega
 ·exact hn k (.inl e)
 ·exact hn k (.inr (.inl e))
 ·exact hn k (.inr (.inr (.inl e)))
 ·exact hn k (.inr (.inr (.inr (.inl e))))
 ·exact hn k (.inr (.inr (.inr (.inr ((i _).fsB.symm.trans e)))))
def JJ(c:Cf)(T:ByteArray)(m':MS)(A:Ids->Z->Prop):Prop:=∀(W:Z) (i:Ids) (ep:Int) (q:JM) (b:Nat),zP W i c ep ms0 q->W.1[b]?=Y (.cells #[.string T] 9 (0,0))->¬xb W i b->A i W->Calls prog 71 #[.pointer (Y ⟨i.x,0,E⟩),.func (.func 202) #[] #[.pointer (Y ⟨b,0,E⟩)]] W fun e w'=>e=.returned (.tuple #[])/\zP w' i c ep m' q/\Kx i W w'
theorem zhb{S:DS}{N:Nat}(h:DOk S N):DOk (Qq S) (N+5):=by
 have b:Kf.size=1:=rfl
 have a:=kO h yc Kf
 rw[b]at a
 unfold Qq
 split
 ·exact yH a (by omega)
 ·exact yH (Xh a _) (by omega)
def zkc(c:Cf)(p:Nat)(S:DS)(fs:C)(m':MS)(w:Z)(e:Ending)(w':Z):Prop:=
 ∃(i:Ids) (b:List SX) (a:List (Jk×Tsk)),i.d=p/\e=.returned (.tuple #[.pointer (Y ⟨i.x,0,E⟩),I O 0])/\b.Perm (Zy m'.L m'.Gl)/\zP w' i c (zco S) {m' with TL:=a} ⟨zah (Qq S) (xU m'.now b) 0,zbx (Qq S) (xU m'.now b),false⟩/\yd c m' a/\zo (foot p fs) w w'/\(∀k,xb w' i k->foot p fs k\/w.1.size<=k)
theorem zjL(c:Cf)(hc:c.ok)(hr:xV c.s c.le c.la c.wi c.ke c.qu c.n c.F c.W c.K=true)(a:Option Addr)(cap p:Nat)(S:DS)(fs:C)(w:Z)(hd:zbS w p S fs)(N:Nat)(hN:N<=900000000000)(bn:DOk S N)(bd:VV S=true)(aB:∀w',zo (foot p fs) w w'->TS w' a c.n c.F c.W c.K)(ap:Zz w)(br:∀k,foot p fs k->k≠Qm)
  (m':MS) (A:Ids->Z->Prop) (aD:∀i W,zo (foot p fs) w W->(∀k,xb W i k->foot p fs k\/w.1.size<=k)->A i W) (aT:JJ c ((yD (Qq S) yb).extract 0 (zgO (yD (Qq S) yb))) m' A) (bm:0<=m'.now/\m'.now<=100000) (an:∀x∈Zy m'.L m'.Gl,okX x) (bP:m'.L.length<=2000) (bY:m'.Gl.length<=49000000) (hL:∀p∈m'.L,inR c p.1) (bR:m'.TL.length<=50000) (bo:∀ys,ys.Perm (Zy m'.L m'.Gl)->Qz (Qq S) (xU m'.now ys)=true):
  Calls prog 29 #[.agg #[I O c.s,I O c.le,I O c.la,I O c.wi,I O c.ke,I O c.qu,.slice a c.n cap],.pointer (Y ⟨p,0,E⟩)] w (zkc c p S fs m' w):=by
 have am:=zhb bn
 have az:G w.1.size w (w.alloc (.cells #[I O c.s,I O c.le,I O c.la,I O c.wi,I O c.ke,I O c.qu,.slice a c.n cap] 27)):=(P _ _).alloc (r _) _
 have bv:=zd (zk w (.cells #[I O c.s,I O c.le,I O c.la,I O c.wi,I O c.ke,I O c.qu,.slice a c.n cap] 27))
 have HR:=zd (YG c.s c.le c.la c.wi c.ke c.qu a c.n cap c.F c.W c.K _ (aB _ (zo.of_below az)))
 rw[hr,show zgN true=0 from rfl]at HR
 have aE:=zd az
 have HD:=zd hd
 have bB:=zd aB
 have ai:=zd ap
 have aW:=zd br
 have ah:=zd aT
 have af:=zd aD
 have aS:=zd an
 have bw:=zd hL
 have aV:=zd bo
 have ag:=zd am
 have bZ:=hd.lt
 clear hd aB az ap br aT aD an hL bo am
 go_enter func29,ntmps29
 go_wp2_with fail
 refine(ud HR).mono ?_
 rintro e w1 ⟨rfl,aA⟩
 have a5:=(ud aE).trans (aA.mono (ud aE).size)
 have aP:=zd ((aA.block w.1.size (by rw[zI];omega)).trans (ud bv))
 have ar:=zd (zcp ((ud HD).later a5) N (by omega) bn)
 rw[bd]at ar
 have aY:=zd a5
 clear aA a5 HR
 go_wp2_with fail
 refine(ud ar).mono ?_
 rintro e w2 ⟨rfl,ax,be,ae,bf⟩
 have c2:=(ud aY).size
 have bK:¬foot p fs w.1.size:=by
  rintro(h|h)
  ·omega
  ·have:=zjK (ud HD).row _ h;omega
 have al:=ae.heap (ud aP) bK
 have a7:zo (foot p fs) w w2:=(zo.of_below (ud aY)).trans ae (fun _ _ h=>h)
 obtain⟨z0,z1,z2,z3,z4,z5,z6,-⟩:=zc al
 have aQ:=zd (zfO c hc a cap w2 (ud bB _ a7))
 have c3:=ae.size
 have a0:=zd a7
 have aK:=zd be
 have aL:=zd bf
 clear be ae bf a7 al aP ar
 go_wp2_with fail
 refine(ud aQ).mono ?_
 rintro e d ⟨g,b,rfl,a8,bb⟩
 have aR:=zd a8
 have aq:=zd bb
 clear a8 bb z0 z1 z2 z3 z4 z5 z6 aQ
 go_wp2_with fail
 have bc:=(ud aq).alloc (ud aq).size (.cells #[I O c.s,I O c.le,I O c.la,I O c.wi,I O c.ke,I O c.qu,.slice (Y ⟨g,0,E⟩) c.n b] 89)
 have bk:=zk d (.cells #[I O c.s,I O c.le,I O c.la,I O c.wi,I O c.ke,I O c.qu,.slice (Y ⟨g,0,E⟩) c.n b] 89)
 have bs:=zI d (.cells #[I O c.s,I O c.le,I O c.la,I O c.wi,I O c.ke,I O c.qu,.slice (Y ⟨g,0,E⟩) c.n b] 89)
 have au:=zd ((ud aR).alloc (.cells #[I O c.s,I O c.le,I O c.la,I O c.wi,I O c.ke,I O c.qu,.slice (Y ⟨g,0,E⟩) c.n b] 89))
 generalize(d.alloc (.cells #[I O c.s,I O c.le,I O c.la,I O c.wi,I O c.ke,I O c.qu,.slice (Y ⟨g,0,E⟩) c.n b] 89))=X at*
 obtain⟨x0,x1,x2,x3,x4,x5,x6,-⟩:=zc bk
 have y:d.1.size<X.1.size:=by omega
 have HS:=fun W=>zd (zgv c (Y ⟨g,0,E⟩) b W)
 have HJ:=fun W=>zd (zfd c (Y ⟨g,0,E⟩) b (zco S) W)
 have aN:=fun W=>zd (zaU p W)
 have a9:=zd bc
 have bC:=zd bs
 clear bc bk bs
 go_region_held3 (fun w'=>w'.cell? ⟨d.1.size,0,E⟩=Y (I O c.s)/\w'.cell? ⟨d.1.size,1,E⟩=Y (I O c.le)/\w'.cell? ⟨d.1.size,2,E⟩=Y (I O c.la)/\w'.cell? ⟨d.1.size,3,E⟩=Y (I O c.wi)/\w'.cell? ⟨d.1.size,4,E⟩=Y (I O c.ke)/\w'.cell? ⟨d.1.size,5,E⟩=Y (I O c.qu)/\w'.cell? ⟨d.1.size,6,E⟩=Y (.slice (Y ⟨g,0,E⟩) c.n b)) (go_keep) (first
  |(go_at_call 68;(with_reducible refine(ud (HS _)).mono ?_);rintro e V ⟨s1,q,t,rfl,H,b2,b3,b4,v1,v2,v3,v4⟩;have m:G X.1.size X V:=⟨v4.os,v4.tape,v4.output,v4.size,v4.block⟩;have aG:Hid (X.1.size<=s1/\X.1.size<=q/\X.1.size<=t):=⟨H,b2,b3⟩;have B4:=zd b4;have V1:=zd v1;have V2:=zd v2;have V3:=zd v3;clear v1 v2 v3 v4 H b2 b3 b4;have y0:V.cell? ⟨d.1.size,0,E⟩=Y (I O c.s):=(m.cell (p:=⟨d.1.size,0,E⟩) y).trans x0;have y1:V.cell? ⟨d.1.size,1,E⟩=Y (I O c.le):=(m.cell (p:=⟨d.1.size,1,E⟩) y).trans x1;have y2:V.cell? ⟨d.1.size,2,E⟩=Y (I O c.la):=(m.cell (p:=⟨d.1.size,2,E⟩) y).trans x2;have y3:V.cell? ⟨d.1.size,3,E⟩=Y (I O c.wi):=(m.cell (p:=⟨d.1.size,3,E⟩) y).trans x3;have y4:V.cell? ⟨d.1.size,4,E⟩=Y (I O c.ke):=(m.cell (p:=⟨d.1.size,4,E⟩) y).trans x4;have y5:V.cell? ⟨d.1.size,5,E⟩=Y (I O c.qu):=(m.cell (p:=⟨d.1.size,5,E⟩) y).trans x5;have y6:V.cell? ⟨d.1.size,6,E⟩=Y (.slice (Y ⟨g,0,E⟩) c.n b):=(m.cell (p:=⟨d.1.size,6,E⟩) y).trans x6;have v:d.1.size<V.1.size:=z7 y m.size;have aJ:=zd m;clear m HS)
  |(go_at_call 69;(with_reducible refine(ud (HJ _)).mono ?_);rintro e U ⟨H,B,z,rfl,d1,d2,d3,u1,u4⟩;have l:G V.1.size V U:=⟨u4.os,u4.tape,u4.output,u4.size,u4.block⟩;have aF:Hid (V.1.size<=H/\V.1.size<=B/\V.1.size<=z):=⟨d1,d2,d3⟩;have U1:=zd u1;clear u1 u4 d1 d2 d3;have z0:U.cell? ⟨d.1.size,0,E⟩=Y (I O c.s):=(l.cell (p:=⟨d.1.size,0,E⟩) v).trans y0;have z1:U.cell? ⟨d.1.size,1,E⟩=Y (I O c.le):=(l.cell (p:=⟨d.1.size,1,E⟩) v).trans y1;have z2:U.cell? ⟨d.1.size,2,E⟩=Y (I O c.la):=(l.cell (p:=⟨d.1.size,2,E⟩) v).trans y2;have z3:U.cell? ⟨d.1.size,3,E⟩=Y (I O c.wi):=(l.cell (p:=⟨d.1.size,3,E⟩) v).trans y3;have z4:U.cell? ⟨d.1.size,4,E⟩=Y (I O c.ke):=(l.cell (p:=⟨d.1.size,4,E⟩) v).trans y4;have z5:U.cell? ⟨d.1.size,5,E⟩=Y (I O c.qu):=(l.cell (p:=⟨d.1.size,5,E⟩) v).trans y5;have z6:U.cell? ⟨d.1.size,6,E⟩=Y (.slice (Y ⟨g,0,E⟩) c.n b):=(l.cell (p:=⟨d.1.size,6,E⟩) v).trans y6;have u:d.1.size<U.1.size:=z7 v l.size;have aI:=zd l;clear l HJ)
  |(go_at_call 70;(with_reducible refine(ud (aN _)).mono ?_);rintro e T ⟨j1,rfl,d1,t1,t4⟩;have j:G U.1.size U T:=⟨t4.os,t4.tape,t4.output,t4.size,t4.block⟩;have aM:Hid (U.1.size<=j1):=d1;have T1:=zd t1;clear t1 t4 d1;have t0:T.cell? ⟨d.1.size,0,E⟩=Y (I O c.s):=(j.cell (p:=⟨d.1.size,0,E⟩) u).trans z0;have t1:T.cell? ⟨d.1.size,1,E⟩=Y (I O c.le):=(j.cell (p:=⟨d.1.size,1,E⟩) u).trans z1;have t2:T.cell? ⟨d.1.size,2,E⟩=Y (I O c.la):=(j.cell (p:=⟨d.1.size,2,E⟩) u).trans z2;have t3:T.cell? ⟨d.1.size,3,E⟩=Y (I O c.wi):=(j.cell (p:=⟨d.1.size,3,E⟩) u).trans z3;have t4:T.cell? ⟨d.1.size,4,E⟩=Y (I O c.ke):=(j.cell (p:=⟨d.1.size,4,E⟩) u).trans z4;have t5:T.cell? ⟨d.1.size,5,E⟩=Y (I O c.qu):=(j.cell (p:=⟨d.1.size,5,E⟩) u).trans z5;have t6:T.cell? ⟨d.1.size,6,E⟩=Y (.slice (Y ⟨g,0,E⟩) c.n b):=(j.cell (p:=⟨d.1.size,6,E⟩) u).trans z6;have bQ:d.1.size<T.1.size:=z7 u j.size;have aH:=zd j;clear j aN))
 go_wp2_with fail
 have m:=ud aJ
 have l:=ud aI
 have j:=ud aH
 have a4:=(ud a9).trans (m.mono (ud a9).size)
 have a3:=a4.trans (l.mono a4.size)
 have D:=a3.trans (j.mono a3.size)
 have a2:=l.trans (j.mono l.size)
 have bI:=m.size
 have bH:=l.size
 have bG:=j.size
 have bE:=(ud a9).size
 obtain⟨s0,s9,s8⟩:=ud aG
 obtain⟨j0,j9,j8⟩:=ud aF
 have bU:=ud aM
 have bp:=za (ud V1)
 have bj:q<V.1.size:=(ud V2).lt
 have bL:=(ud V3).lt
 have bJ:=(ud U1).foot_lt
 obtain⟨Q,bV,bh,bM,bO⟩:=(ud au).form (by have:=hc.n1;omega)
 have bN:Q=g:=by injection bh with h1 _ _;injection h1 with h1;injection h1 with h1;exact h1.symm
 subst bN
 have ao:xt T s1 c (.slice (Y ⟨Q,0,E⟩) c.n b) q t [] []:=⟨((a2.block _ bp).trans (ud V1)),xm (xm (Y8 (ud au)) m) a2,(ud V2).later a2,(ud V3).later a2,ud B4⟩
 have a6:JAt T j1 p 0 (Qq S) ax:=⟨ud T1,(ud aK).later D⟩
 have bq:Zz T:=vx ((ud ai).kept (ud a0) (fun e=>ud aW _ e rfl)) D
 have bW:=(ud ai).lt
 have o:∀k,(vr s1 (.slice (Y ⟨Q,0,E⟩) c.n b) q t k\/vA H B z k\/vM j1 p ax k)->foot p fs k\/w.1.size<=k:=fun k hk=>by
  rcases hk with(e|e|e|e)|(e|e|e)|e|e|e
  ·right;have:k=s1:=e;omega
  ·right
   have e':(Value.slice (Y ⟨Q,0,E⟩) c.n b).ownBlock=Y k:=e
   simp[Value.ownBlock]at e';subst e';omega
  ·right;have:k=q:=e;omega
  ·right;have:k=t:=e;omega
  ·right;have:k=H:=e;omega
  ·right;have:k=B:=e;omega
  ·right;have:k=z:=e;omega
  ·right;have:k=j1:=e;omega
  ·exact .inl (.inl e)
  ·rcases ud aL k e with h|h
   ·exact .inl (.inr h)
   ·right;omega
 have ad:=zfQ ao ((ud U1).later j) a6 bq (show q≠B by omega) (show q≠z by omega) (show t≠B by omega) (show t≠z by omega) (fun k hk=>by
  rcases o k hk with h|h
  ·exact ud aW k h
  ·omega)
 have ak:=D.alloc D.size (.cells #[I O c.s,I O c.le,I O c.la,I O c.wi,I O c.ke,I O c.qu,.slice (Y ⟨Q,0,E⟩) c.n b,I O (zco S),I O 0,.pointer (Y ⟨s1,0,E⟩),.pointer (Y ⟨H,0,E⟩),.pointer (Y ⟨j1,0,E⟩),.bool false] 94)
 have aj:G T.1.size T (T.alloc (.cells #[I O c.s,I O c.le,I O c.la,I O c.wi,I O c.ke,I O c.qu,.slice (Y ⟨Q,0,E⟩) c.n b,I O (zco S),I O 0,.pointer (Y ⟨s1,0,E⟩),.pointer (Y ⟨H,0,E⟩),.pointer (Y ⟨j1,0,E⟩),.bool false] 94)):=(P _ _).alloc (r _) _
 have bF:=zI T (.cells #[I O c.s,I O c.le,I O c.la,I O c.wi,I O c.ke,I O c.qu,.slice (Y ⟨Q,0,E⟩) c.n b,I O (zco S),I O 0,.pointer (Y ⟨s1,0,E⟩),.pointer (Y ⟨H,0,E⟩),.pointer (Y ⟨j1,0,E⟩),.bool false] 94)
 generalize T.alloc (.cells #[I O c.s,I O c.le,I O c.la,I O c.wi,I O c.ke,I O c.qu,.slice (Y ⟨Q,0,E⟩) c.n b,I O (zco S),I O 0,.pointer (Y ⟨s1,0,E⟩),.pointer (Y ⟨H,0,E⟩),.pointer (Y ⟨j1,0,E⟩),.bool false] 94)=M at*
 obtain⟨bX,bi⟩:=ad.jrn
 have aU:=zd (Jt bi.disk (N+5) (by omega) (ud ag))
 have bg:∀k,xb M ⟨T.1.size,s1,q,t,H,B,z,.slice (Y ⟨Q,0,E⟩) c.n b,j1,p⟩ k->foot p fs k\/w.1.size<=k:=fun k hk=>by
  rcases hk with(e|e|e|e|e)|e
  ·right;have:k=T.1.size:=e;omega
  ·exact o k (.inl e)
  ·exact o k (.inr (.inl e))
  ·exact o k (.inr (.inr (.inl e)))
  ·exact o k (.inr (.inr (.inr (.inl e))))
  ·have e2:fsB M p=ax.ownBlock:=by
    have hx:=(a6.disk.later aj).c0
    unfold fsB;rw[hx];rfl
   exact o k (.inr (.inr (.inr (.inr (e2.symm.trans e)))))
 have aC:zo (foot p fs) w M:=(ud a0).trans (zo.of_below (f:=foot p fs) ak) (fun _ _ h=>h)
 have aZ:=zd aC
 have aa:=zd bg
 have ab:=zd ad
 have c1:=ad.lt
 have c4:w.1.size<=M.1.size:=aC.size
 clear ad aC bg bi o ao a6 bq aj bF ak D a3 a4 a2 m l j bJ bh bM bO bp bj bL s0 s9 s8 j0 j9 j8 bU bI bH bG bE y v u bQ aJ aI aH a9 bC au aR aq aK aL a0 V1 V2 V3 U1 T1 aG aF aM B4 x0 x1 x2 x3 x4 x5 x6 y0 y1 y2 y3 y4 y5 y6 z0 z1 z2 z3 z4 z5 z6 t0 t1 t2 t3 t4 t5 t6
 refine(ud aU).mono ?_
 rintro e R ⟨rfl,hR⟩
 have J:G M.1.size M R:=by rw[hR];exact(P _ _).alloc (r _) _
 have bl:R.1[M.1.size]?=Y (.cells #[.string ((yD (Qq S) yb).extract 0 (zgO (yD (Qq S) yb)))] 9 (0,0)):=by rw[hR];exact zk _ _
 have a1:=zd (ud ah R ⟨T.1.size,s1,q,t,H,B,z,.slice (Y ⟨Q,0,E⟩) c.n b,j1,p⟩ (zco S) ⟨0,Qq S,false⟩ M.1.size ((ud ab).later J) bl (Zf (ud ab) J) (ud af _ R ((ud aZ).trans (zo.of_below (f:=foot p fs) J) (fun _ _ h=>h)) (fun k hk=>ud aa k (KE (ud ab) J k hk))))
 dsimp only at a1
 have aO:=zd (Kx.below (i:=⟨T.1.size,s1,q,t,H,B,z,.slice (Y ⟨Q,0,E⟩) c.n b,j1,p⟩) J (ud ab).dlt)
 clear hR J bl aU ah af
 go_wp2_with fail
 refine(ud a1).mono ?_
 rintro e R2 ⟨rfl,ay,b0⟩
 have aw:=zd (QW ay (by unfold xg;omega) (ud aS) (by omega) (by omega) (N+5) (by omega) (ud ag))
 dsimp only at aw
 have bt:=zd ((ud aO).trans b0)
 have bS:=ay.lt
 dsimp only at bS
 clear ay b0 aO a1
 go_wp2_with fail
 refine(ud aw).mono ?_
 rintro e R3 ⟨ys,hp,rfl,ac,b5⟩
 rw[ud aV ys hp]
 have av:=zd (YM ac.own hc (ud bw) bP bm bR)
 dsimp only at av
 have bA:=zd hp
 have bx:=zd ac
 have bu:=zd ((ud bt).trans b5)
 have bT:=ac.lt
 dsimp only at bT
 clear hp ac b5 aw
 go_wp2_with fail
 refine(ud av).mono ?_
 rintro e R4 ⟨rfl,bD,b8,b6,b9⟩
 have ba:=(ud bx).put b8 b6 (fun k e=> .inr (.inr (.inr (.inl e))))
 have aX:=zd ba
 have bz:=zd b9
 clear ba b8 b6 b9 av
 go_wp2_with fail
 refine bodyPost_ret (results_tmp2 rfl _ _ _) rfl ?_
 have b7:=(ud bu).trans (ud aX).2
 refine⟨⟨T.1.size,s1,q,t,H,B,z,.slice (Y ⟨Q,0,E⟩) c.n b,j1,p⟩,ys,bD,rfl,rfl,ud bA,(ud aX).1,ud bz,(ud aZ).trans b7.kept (fun k hk e=>?_),fun k hk=>?_⟩
 ·rcases ud aa k e with h|h
  ·exact h
  ·omega
 ·rcases hk with e|e
  ·exact ud aa k (.inl e)
  ·rcases b7.fs k e with h|h
   ·exact ud aa k (.inr h)
   ·right;omega
def zbV(t:Tok):List C:=[I O t.ep,I O t.num]
structure Shp where
 p:Nat
 i:Ids
 d:Nat
 ct:C
 nv:C
 kv:C
 uv:C
def vT(s:Shp)(k:Nat):Prop:=k=s.p\/s.ct.ownBlock=Y k\/s.nv.ownBlock=Y k\/s.kv.ownBlock=Y k\/s.uv.ownBlock=Y k
structure zM(w:Z)(B:Nat)(s:Shp)(c:Cf)(ep:Int)(m:MS)(sn:Int)(ns:List Nm)(ks:List Tok)(us:List Int):Prop where
 head:w.1[s.p]?=Y (.cells #[.pointer (Y ⟨s.i.x,0,E⟩),.pointer (Y ⟨s.d,0,E⟩),I O c.s,I O c.le,I O c.la,I O c.wi,I O c.ke,I O c.qu,s.ct,I O sn,s.nv,s.kv,s.uv] 44 (0,0))
 mill:zA w s.i c ep m
 crow:w.ownsRow B 80 3 s.ct c.n (jv c.n c.F c.W c.K)
 nrow:w.ownsRow B 87 3 s.nv ns.length (ns.flatMap nmV)
 krow:w.ownsRow B 49 2 s.kv ks.length (ks.flatMap zbV)
 urow:w.ownsRow B 3 1 s.uv us.length (us.map (I O))
 lo:B<=s.p
 mlo:∀j,xb w s.i j->B<=j
 sep:∀j,vT s j->¬xb w s.i j
 dd:s.d=s.i.d
 tb:Qm<B
theorem qA{f:Nat->Prop}{w w':Z}{i:Ids}(g:zo f w w')(c:¬f i.d)(h:i.d<w.1.size):∀j,xb w' i j->xb w i j:=by
 rintro j (e|e)
 ·exact .inl e
 ·right
  have a:=g.block _ h c
  have b:fsB w' i.d=fsB w i.d:=by unfold fsB World.cell?;simp only[a]
  rw[<-b];exact e
section
variable {w:Z} {B:Nat} {s:Shp} {c:Cf} {ep:Int} {m:MS} {sn:Int} {ns:List Nm} {ks:List Tok} {us:List Int}
theorem zM.lt(h:zM w B s c ep m sn ns ks us):s.p<w.1.size:=za h.head
theorem zM.foot_lt(h:zM w B s c ep m sn ns ks us):∀j,vT s j->j<w.1.size:=fun j d=>by
 rcases d with rfl|e|e|e|e
 ·exact h.lt
 ·obtain⟨a,b⟩:=zH h.crow e;exact za b
 ·obtain⟨a,b⟩:=zH h.nrow e;exact za b
 ·obtain⟨a,b⟩:=zH h.krow e;exact za b
 ·obtain⟨a,b⟩:=zH h.urow e;exact za b
theorem zM.foot_lo(h:zM w B s c ep m sn ns ks us):∀j,vT s j->B<=j:=fun j a=>by
 rcases a with rfl|e|e|e|e
 ·exact h.lo
 ·exact(h.crow.lt j e).1
 ·exact(h.nrow.lt j e).1
 ·exact(h.krow.lt j e).1
 ·exact(h.urow.lt j e).1
theorem zM.kept{f:Nat->Prop}{w':Z}(h:zM w B s c ep m sn ns ks us)(a:zo f w w')(b:∀j,vT s j->¬f j)(g:∀j,xb w s.i j->¬f j)(l:¬f Qm):zM w' B s c ep m sn ns ks us:=
 have k:=qA (i:=s.i) a (g _ (.inl (.inr (.inr (.inr (.inr rfl)))))) h.mill.dlt
 ⟨a.heap h.head (b _ (.inl rfl)),h.mill.kept a g l,zg h.crow a (fun j e=>b j (.inr (.inl e))),zg h.nrow a (fun j e=>b j (.inr (.inr (.inl e)))),zg h.krow a (fun j e=>b j (.inr (.inr (.inr (.inl e))))),zg h.urow a (fun j e=>b j (.inr (.inr (.inr (.inr e))))),h.lo,fun j d=>h.mlo j (k j d),fun j d n=>h.sep j d (k j n),h.dd,h.tb⟩
theorem zM.later{w':Z}(h:zM w B s c ep m sn ns ks us)(a:G w.1.size w w'):zM w' B s c ep m sn ns ks us:=h.kept (f:=fun _=>False) (zo.of_below a) (fun _ _ e=>e) (fun _ _ e=>e) (fun e=>e)
theorem zM.putMill{w':Z}{m':MS}(h:zM w B s c ep m sn ns ks us)(d:zA w' s.i c ep m')(g:Kx s.i w w'):zM w' B s c ep m' sn ns ks us:=
 have b:=g.kept
 have f:∀j,xb w' s.i j->xb w s.i j\/w.1.size<=j:=fun j a=>by
  rcases a with e|e
  ·exact .inl (.inl e)
  ·rcases g.fs j e with e|e
   ·exact .inl (.inr e)
   ·exact .inr e
 ⟨b.heap h.head (h.sep _ (.inl rfl)),d,zg h.crow b (fun j e=>h.sep j (.inr (.inl e))),zg h.nrow b (fun j e=>h.sep j (.inr (.inr (.inl e)))),zg h.krow b (fun j e=>h.sep j (.inr (.inr (.inr (.inl e))))),zg h.urow b (fun j e=>h.sep j (.inr (.inr (.inr (.inr e))))),h.lo,fun j a=>by
  rcases f j a with e|e
  ·exact h.mlo j e
  ·have k:=h.lo;have l:=h.lt;omega,fun j a d=>by
  rcases f j d with e|e
  ·exact h.sep j a e
  ·have:=h.foot_lt j a;omega,h.dd,h.tb⟩
theorem zM.cells(h:zM w B s c ep m sn ns ks us):w.cell? ⟨s.p,0,E⟩=Y (.pointer (Y ⟨s.i.x,0,E⟩))/\w.cell? ⟨s.p,2,E⟩=Y (I O c.s)/\w.cell? ⟨s.p,3,E⟩=Y (I O c.le)/\w.cell? ⟨s.p,4,E⟩=Y (I O c.la)/\w.cell? ⟨s.p,7,E⟩=Y (I O c.qu)/\w.cell? ⟨s.p,8,E⟩=Y s.ct/\w.cell? ⟨s.p,9,E⟩=Y (I O sn)/\w.cell? ⟨s.p,10,E⟩=Y s.nv/\w.cell? ⟨s.p,11,E⟩=Y s.kv/\w.cell? ⟨s.p,12,E⟩=Y s.uv:=by
 refine⟨?_,?_,?_,?_,?_,?_,?_,?_,?_,?_⟩<;>rw[xD h.head]<;>rfl
theorem zM.dne(h:zM w B s c ep m sn ns ks us):¬s.i.d=s.p:=fun e=>h.sep s.p (.inl rfl) (.inl (.inr (.inr (.inr (.inr e.symm)))))
theorem zM.dnr(h:zM w B s c ep m sn ns ks us){v:C}(hv:∀j,v.ownBlock=Y j->vT s j):¬v.ownBlock=Y s.i.d:=fun e=>h.sep _ (hv _ e) (.inl (.inr (.inr (.inr (.inr rfl)))))
theorem zM.tnr(h:zM w B s c ep m sn ns ks us){v:C}(hv:∀j,v.ownBlock=Y j->vT s j):¬v.ownBlock=Y Qm:=fun e=>by have a:=h.foot_lo _ (hv _ e);have b:=h.tb;omega
theorem zM.tnp(h:zM w B s c ep m sn ns ks us):¬Qm=s.p:=fun e=>by have a:=h.tb;have b:=h.lo;omega
theorem zM.keptP{w':Z}(h:zM w B s c ep m sn ns ks us)(a:zo (fun k=>k=s.p) w w'):zA w' s.i c ep m/\w'.ownsRow B 80 3 s.ct c.n (jv c.n c.F c.W c.K)/\w'.ownsRow B 87 3 s.nv ns.length (ns.flatMap nmV)/\w'.ownsRow B 49 2 s.kv ks.length (ks.flatMap zbV)/\w'.ownsRow B 3 1 s.uv us.length (us.map (I O)):=
 ⟨h.mill.kept a (fun j b e=>h.sep s.p (.inl rfl) (e▸b)) (fun e=>by have f:=h.tb;have g:=h.lo;have d:Qm=s.p:=e;omega),zg h.crow a (zu h.head h.crow (by decide)),zg h.nrow a (zu h.head h.nrow (by decide)),zg h.krow a (zu h.head h.krow (by decide)),zg h.urow a (zu h.head h.urow (by decide))⟩
theorem zM.setNow(h:zM w B s c ep m sn ns ks us)(n:Int):zM (w.setCell ⟨s.p,9,E⟩ (I O n)) B s c ep m n ns ks us:=by
 have b:=qA (i:=s.i) (zn (i:=9) (v:=I O n) (zo.refl (fun k=>k=s.p) w) rfl) h.dne h.mill.dlt
 obtain⟨d,e,a3,a4,a5⟩:=h.keptP (zn (i:=9) (v:=I O n) (zo.refl (fun k=>k=s.p) w) rfl)
 exact⟨xy (i:=9) h.head (I O n),d,e,a3,a4,a5,h.lo,fun j a=>h.mlo j (b j a),fun j a f=>h.sep j a (b j f),h.dd,h.tb⟩
theorem zM.sepNew(h:zM w B s c ep m sn ns ks us){z v:C}(hv:∀j,v.ownBlock=Y j->vT s j)(d:∀j,z.ownBlock=Y j->v.ownBlock=Y j\/w.1.size<=j):∀j,z.ownBlock=Y j->¬xb w s.i j:=fun j b a=>by
 rcases d j b with e|e
 ·exact h.sep j (hv j e) a
 ·have:=h.mill.foot_lt j a;omega
theorem zM.setNums{o:Z}{z:C}{x:Nm}(h:zM w B s c ep m sn ns ks us)(g:zo (fun k=>s.nv.ownBlock=Y k) w o)(b:o.ownsRow B 87 3 z (ns++[x]).length ((ns++[x]).flatMap nmV))(y:∀j,z.ownBlock=Y j->s.nv.ownBlock=Y j\/w.1.size<=j):
  zM (o.setCell ⟨s.p,10,E⟩ z) B {s with nv:=z} c ep m sn (ns++[x]) ks us:=by
 have a:=g.heap h.head (fun e=>zu h.head h.nrow (by decide) s.p e rfl)
 have l:zo (fun k=>k=s.p) o (o.setCell ⟨s.p,10,E⟩ z):=zn (zo.refl _ _) rfl
 have q:=zg h.crow g (xo h.crow h.nrow (by decide))
 have t:=zg h.krow g (xo h.krow h.nrow (by decide))
 have a3:=zg h.urow g (xo h.urow h.nrow (by decide))
 have hv:∀j,s.nv.ownBlock=Y j->vT s j:=fun j e=> .inr (.inr (.inl e))
 have a4:=h.mill.kept g (fun j f e=>h.sep j (.inr (.inr (.inl e))) f) (h.tnr hv)
 have d:=qA (i:=s.i) g (h.dnr hv) h.mill.dlt
 have n:=qA (i:=s.i) l h.dne a4.dlt
 refine⟨xy (i:=10) a z,a4.kept l (fun j f e=>h.sep s.p (.inl rfl) (e▸(d j f))) h.tnp,zg q l (zu a q (by decide)),zg b l (zu a b (by decide)),zg t l (zu a t (by decide)),zg a3 l (zu a a3 (by decide)),h.lo,fun j f=>h.mlo j (d j (n j f)),fun j f u=>(?_:¬xb w s.i j) (d j (n j u)),h.dd,h.tb⟩
 rcases f with e|e|e|e|e
 ·exact h.sep j (.inl e)
 ·exact h.sep j (.inr (.inl e))
 ·exact h.sepNew (v:=s.nv) (fun j e=> .inr (.inr (.inl e))) y j e
 ·exact h.sep j (.inr (.inr (.inr (.inl e))))
 ·exact h.sep j (.inr (.inr (.inr (.inr e))))
theorem zM.setToks{o:Z}{z:C}{x:Tok}(h:zM w B s c ep m sn ns ks us)(g:zo (fun k=>s.kv.ownBlock=Y k) w o)(b:o.ownsRow B 49 2 z (ks++[x]).length ((ks++[x]).flatMap zbV))(y:∀j,z.ownBlock=Y j->s.kv.ownBlock=Y j\/w.1.size<=j):
  zM (o.setCell ⟨s.p,11,E⟩ z) B {s with kv:=z} c ep m sn ns (ks++[x]) us:=by
 have a:=g.heap h.head (fun e=>zu h.head h.krow (by decide) s.p e rfl)
 have l:zo (fun k=>k=s.p) o (o.setCell ⟨s.p,11,E⟩ z):=zn (zo.refl _ _) rfl
 have q:=zg h.crow g (xo h.crow h.krow (by decide))
 have t:=zg h.nrow g (xo h.nrow h.krow (by decide))
 have a3:=zg h.urow g (xo h.urow h.krow (by decide))
 have hv:∀j,s.kv.ownBlock=Y j->vT s j:=fun j e=> .inr (.inr (.inr (.inl e)))
 have a4:=h.mill.kept g (fun j f e=>h.sep j (.inr (.inr (.inr (.inl e)))) f) (h.tnr hv)
 have d:=qA (i:=s.i) g (h.dnr hv) h.mill.dlt
 have n:=qA (i:=s.i) l h.dne a4.dlt
 refine⟨xy (i:=11) a z,a4.kept l (fun j f e=>h.sep s.p (.inl rfl) (e▸(d j f))) h.tnp,zg q l (zu a q (by decide)),zg t l (zu a t (by decide)),zg b l (zu a b (by decide)),zg a3 l (zu a a3 (by decide)),h.lo,fun j f=>h.mlo j (d j (n j f)),fun j f u=>(?_:¬xb w s.i j) (d j (n j u)),h.dd,h.tb⟩
 rcases f with e|e|e|e|e
 ·exact h.sep j (.inl e)
 ·exact h.sep j (.inr (.inl e))
 ·exact h.sep j (.inr (.inr (.inl e)))
 ·exact h.sepNew (v:=s.kv) (fun j e=> .inr (.inr (.inr (.inl e)))) y j e
 ·exact h.sep j (.inr (.inr (.inr (.inr e))))
theorem zM.setUnts{o:Z}{z:C}{x:Int}(h:zM w B s c ep m sn ns ks us)(g:zo (fun k=>s.uv.ownBlock=Y k) w o)(b:o.ownsRow B 3 1 z (us++[x]).length ((us++[x]).map (I O)))(y:∀j,z.ownBlock=Y j->s.uv.ownBlock=Y j\/w.1.size<=j):
  zM (o.setCell ⟨s.p,12,E⟩ z) B {s with uv:=z} c ep m sn ns ks (us++[x]):=by
 have a:=g.heap h.head (fun e=>zu h.head h.urow (by decide) s.p e rfl)
 have l:zo (fun k=>k=s.p) o (o.setCell ⟨s.p,12,E⟩ z):=zn (zo.refl _ _) rfl
 have q:=zg h.crow g (xo h.crow h.urow (by decide))
 have t:=zg h.nrow g (xo h.nrow h.urow (by decide))
 have a3:=zg h.krow g (xo h.krow h.urow (by decide))
 have hv:∀j,s.uv.ownBlock=Y j->vT s j:=fun j e=> .inr (.inr (.inr (.inr e)))
 have a4:=h.mill.kept g (fun j f e=>h.sep j (.inr (.inr (.inr (.inr e)))) f) (h.tnr hv)
 have d:=qA (i:=s.i) g (h.dnr hv) h.mill.dlt
 have n:=qA (i:=s.i) l h.dne a4.dlt
 refine⟨xy (i:=12) a z,a4.kept l (fun j f e=>h.sep s.p (.inl rfl) (e▸(d j f))) h.tnp,zg q l (zu a q (by decide)),zg t l (zu a t (by decide)),zg a3 l (zu a a3 (by decide)),zg b l (zu a b (by decide)),h.lo,fun j f=>h.mlo j (d j (n j f)),fun j f u=>(?_:¬xb w s.i j) (d j (n j u)),h.dd,h.tb⟩
 rcases f with e|e|e|e|e
 ·exact h.sep j (.inl e)
 ·exact h.sep j (.inr (.inl e))
 ·exact h.sep j (.inr (.inr (.inl e)))
 ·exact h.sep j (.inr (.inr (.inr (.inl e))))
 ·exact h.sepNew (v:=s.uv) (fun j e=> .inr (.inr (.inr (.inr e)))) y j e
theorem zM.setUnt{g cap:Nat}(h:zM w B s c ep m sn ns ks us)(d:s.uv=.slice (Y ⟨g,0,E⟩) us.length cap)(j:Nat)(x:Int):zM (w.setCell ⟨g,j,E⟩ (I O x)) B s c ep m sn ns ks (us.set j x):=by
 have q:=h.urow
 rw[d]at q
 have o:=(q.stored j (I O x)).1
 rw[<-d]at o
 have f:s.uv.ownBlock=Y g:=by rw[d];rfl
 have a:zo (fun k=>s.uv.ownBlock=Y k) w (w.setCell ⟨g,j,E⟩ (I O x)):=zn (zo.refl _ _) f
 have l:=a.heap h.head (fun e=>zu h.head h.urow (by decide) s.p e rfl)
 have hv:∀j,s.uv.ownBlock=Y j->vT s j:=fun j e=> .inr (.inr (.inr (.inr e)))
 have n:=qA (i:=s.i) a (h.dnr hv) h.mill.dlt
 exact⟨l,h.mill.kept a (fun j b e=>h.sep j (.inr (.inr (.inr (.inr e)))) b) (h.tnr hv),zg h.crow a (xo h.crow h.urow (by decide)),zg h.nrow a (xo h.nrow h.urow (by decide)),zg h.krow a (xo h.krow h.urow (by decide)),by simpa[List.map_set]using o,h.lo,fun j b=>h.mlo j (n j b),fun j b t=>h.sep j b (n j t),h.dd,h.tb⟩
theorem jn{v:C}(a:w.ownsRow B 3 1 v us.length (us.map (I O))){j:Nat}(b:j<us.length):∃g cap,v=.slice (Y ⟨g,0,E⟩) us.length cap/\g<w.1.size/\w.cell? ⟨g,j,E⟩=Y (I O us[j])/\w.frozen? ⟨g,j,E⟩=false:=by
 obtain⟨g,cap,hv,_,c⟩:=a.form (by omega)
 subst hv
 refine⟨g,cap,rfl,c,?_,a.frozenAt j⟩
 rw[a.cellAt j (by omega)]
 simp[b]
theorem qK{v:C}(c:w.ownsRow B 49 2 v ks.length (ks.flatMap zbV)){j:Nat}(b:j<ks.length):∃g cap,v=.slice (Y ⟨g,0,E⟩) ks.length cap/\g<w.1.size/\w.cell? ⟨g,j*2,E⟩=Y (I O ks[j].ep)/\w.cell? ⟨g,j*2+1,E⟩=Y (I O ks[j].num):=by
 obtain⟨g,cap,hv,_,e⟩:=c.form (by omega)
 subst hv
 have d:∀(l:List Tok) (j:Nat) (b:j<l.length),(l.flatMap zbV)[j*2]?=Y (I O l[j].ep)/\(l.flatMap zbV)[j*2+1]?=Y (I O l[j].num):=fun l=>by
  induction l with
  |nil=>intro j b;simp at b
  |cons a l f=>
   intro j b
   cases j with
   |zero=>simp[zbV]
   |succ j=>
    have:=f j (by simpa using b)
    rw[show(j+1)*2=j*2+1+1 by omega]
    simpa[zbV]using this
 refine⟨g,cap,rfl,e,?_,?_⟩
 ·rw[c.cellAt _ (by omega)];exact(d ks j b).1
 ·rw[c.cellAt _ (by omega)];exact(d ks j b).2
end
def vC(w:Z)(B p:Nat)(c:Cf)(ep:Int)(m:MS)(ns:List Nm)(j:Nat):Prop:=
 ∃(s:Shp) (k:Nat),s.p=p/\zM w B s c ep m m.now ns (vW ep k) (qV ep m.QL k)/\m.num=k/\SOk c ep m ns.length/\k<=j/\ns.length<=j
theorem vC.later{w w':Z}{B p:Nat}{c:Cf}{ep:Int}{m:MS}{ns:List Nm}{j:Nat}(h:vC w B p c ep m ns j)(e:G w.1.size w w'):vC w' B p c ep m ns j:=by
 obtain⟨s,k,a,b,d⟩:=h
 exact⟨s,k,a,b.later e,d⟩
theorem vC.mono{w:Z}{B p:Nat}{c:Cf}{ep:Int}{m:MS}{ns:List Nm}{j a:Nat}(h:vC w B p c ep m ns j)(l:j<=a):vC w B p c ep m ns a:=by
 obtain⟨s,k,b,d,e,f,g,i⟩:=h
 exact⟨s,k,b,d,e,f,by omega,by omega⟩
theorem SOk.tsk{c:Cf}{ep:Int}{m:MS}{nn:Nat}(h:SOk c ep m nn):∀p∈m.TL,Xs c m.now p.2:=fun p d=>by
 have b:=h.ok.td p d
 have a:=h.ok.mem_inR b.mem
 exact⟨a.2.1,a.2.2.1,a.2.2.2,b.se⟩
theorem SOk.qn{c:Cf}{ep:Int}{m:MS}{nn:Nat}(h:SOk c ep m nn):∀q∈m.QL,q.1.num<=m.num:=fun q a=>(h.ok.leas q a).num.2
theorem SOk.epoch{c:Cf}{ep:Int}{m:MS}{nn:Nat}(h:SOk c ep m nn){t:Tok}(i:t∉vW ep m.num.toNat):zY m.QL t=E:=by
 rw[qa]
 intro f
 obtain⟨q,b,rfl⟩:=List.mem_map.1 (show t∈m.QL.map (·.1)from f)
 have a:=(h.ok.leas q b).ep
 have d:=(h.ok.leas q b).num
 refine i (List.mem_map.2 ⟨(q.1.num-1).toNat,by simp;omega,?_⟩)
 obtain⟨⟨e,n⟩,g⟩:=q
 dsimp only at a d ⊢
 rw[a]
 congr 1
 omega
attribute [local go_sem] Oper.semAt_some
theorem zaZ(T:ByteArray)(g:T.size=0)(b:Nat)(w:Z)(d:w.cell? ⟨b,0,E⟩=Y (.string T))(c:b<w.1.size)(Kp:Z->Z->Prop)(encs:ByteArray->Array C)(m:Nat):
  X9 Fence.wide 6 prog 202 #[.pointer (Y ⟨b,0,E⟩)] encs Kp (fun xs=>xs=[]) (fun _=>False) 0 m w:=by
 intro l J k W a q o f h e
 have n:=(a.cell (p:=⟨b,0,E⟩) c).trans d
 have i:=z7 c a.size
 have j:decide ((0:Int)<(T.size:Int))=false:=by rw[g];rfl
 clear a d c h
 show CallsIn Fence.wide 6 prog 202 #[.func (.yield l) #[] #[],.pointer (Y ⟨b,0,E⟩)] W _
 refine callsIn_of_wp func202 rfl trivial ?_ rfl
 simp only[ntmps202,List.size_toArray,List.length_cons,List.length_nil,Nat.reduceAdd,Nat.reduceSub,Array.replicate_succ,Array.replicate_zero,List.push_toArray,List.append_toArray,List.nil_append,List.cons_append]
 gi_wp2
 gi_loopw [] (fun wr=>wr=W) (fun _=>0)
 case atStart=>rfl
 case round=>
  subst hrel
  gi_wp2
  go_end0
  exact⟨⟨_,rfl⟩,.inl ⟨[],rfl,e⟩⟩
theorem zeF:∀args w,(callFunc 202 args).run prog w=.ok (.enter 202 args) w:=enters_of func202 (by kernel_rfl) rfl
theorem zit{w:Z}{x b:Nat}(T:ByteArray)(N:T.size=0)(q:w.1[b]?=Y (.cells #[.string T] 9 (0,0))):
  Calls prog 71 #[.pointer (Y ⟨x,0,E⟩),.func (.func 202) #[] #[.pointer (Y ⟨b,0,E⟩)]] w fun e w'=>e=.returned (.tuple #[])/\G w.1.size w w':=by
 have a:G w.1.size w (w.alloc (.cells #[.pointer (Y ⟨x,0,E⟩)] 38)):=(P _ _).alloc (r _) _
 have j:=(a.block _ (za q)).trans q
 have g:=zd a
 have h:=zd j
 clear q a j
 refine(callsIn_wide (n:=7)).1 ?_
 refine callsIn_of_wp_marks func71 rfl trivial ?_ rfl
 simp only[ntmps71,List.size_toArray,List.length_cons,List.length_nil,Nat.reduceAdd,Nat.reduceSub,Array.replicate_succ,Array.replicate_zero,List.push_toArray,List.append_toArray,List.nil_append,List.cons_append]
 refine wpIn_wide.2 ?_
 go_wp2_with fail
 generalize(w.alloc (.cells #[.pointer (Y ⟨x,0,E⟩)] 38))=X at*
 obtain⟨t,-⟩:=zc (ud h)
 refine(wpIn_wide (n:=7)).1 ?_
 refine qv (F:=Fence.wide) (n:=7) rfl (by omega) (gf:=202) (lb:=#[.pointer (Y ⟨b,0,E⟩)]) rfl trivial zeF (zaZ T N b X t (za (ud h)) (fun _ _=>True) (fun x:ByteArray=>#[.string x]) 0) (Nat.zero_le _) (fun _ _=>trivial) (fun _ _ _ _ _ _=>trivial) (P _ _) (fun _=>rfl)
  (fun d W=>G X.1.size X W) (fun _ _ _=>False)
  (fun s A B U f m J=>f.trans ⟨m.os,m.tape,m.output,m.size,fun k R=>m.block k (z7 R f.size) (fun e=>absurd (J k e.symm).1 (by omega))⟩)
  (fun _ _ _ _ _ f _ _=>f)
  (P _ _)
  (fun _ _ _=>True) (fun _ _ _ _ _ _ f _ _=>f) ?assign ?body ?done ?stop
 case assign=>
  rintro l d y W K i1 H
  have L:=zd H
  clear H
  gi_wp2
  exact ud L _ _ (zi (P _ _)) trivial i1 trivial
 case body=>
  rintro l d y V W hl J i1 _ u
  exact absurd u (Nat.not_lt_zero _)
 case done=>
  rintro D xs W M _ i1 i
  have p:=zd i
  have o:=zd i1
  clear i1 i
  gi_wp2
  have i1:=ud o
  have v:=(ud g).size
  refine⟨by simp,.inl ⟨_,_,rfl,run_takeDeferred (ud p),?_⟩⟩
  have S:zo (fun k=>k=D) W (W.putObj D (.deferred E)):=(zo.refl (fun k=>k=D) W).grown (grownBy_putObj' W D (.deferred E)) (fun k e _=>by cases e;rfl)
  have z:G w.1.size w W:=(ud g).trans (i1.mono v)
  exact⟨_,results_none rfl _ _ _,rfl,z.trans (S.below z.size (fun k e=>by have e':k=D:=e;omega))⟩
 case stop=>
  rintro D c d W M Q
  exact Q.elim
theorem zdN(c:Cf)(T:ByteArray)(d:T.size=0)(A:Ids->Z->Prop):JJ c T ms0 A:=fun W i ep q b h f hn _=>
 (zit T d f).mono fun e w' ⟨g,a⟩=>⟨g,h.later a,Kx.below a h.dlt⟩
theorem Jr{c:Cf}{m:MS}{a:List (Jk×Tsk)}(h:yd c m a)(f:m.L=[])(l:m.TL=[]):a=[]:=by
 obtain⟨n,d,e,o,j,k,rfl⟩:=h.to
 have g:d=[]:=List.eq_nil_iff_forall_not_mem.2 (fun s b=>by have:=((j s).1 b).1;rw[f]at this;simp[zt]at this)
 have i:e=[]:=List.eq_nil_iff_forall_not_mem.2 (fun s b=>by have:=((k s).1 b).1;rw[f]at this;simp[zt]at this)
 rw[g,i,l];rfl
theorem zx.zero{T e:TypeId}{B:Nat}{w:Z}{p:Nat}{S:DS}{fs:C}(h:zx T e B w p S fs):zx T e 0 w p S fs:=⟨h.head,Nat.zero_le _,Y8 h.row⟩
theorem zdM:(xU 0 []).size<=100:=by rw[Zo];have:=Zp (now:=0) (xs:=[]) (by unfold xg;omega) (by simp);simp at this;omega
theorem Vi(c:Cf)(t:c.ok)(R:c.fits)(T:xV c.s c.le c.la c.wi c.ke c.qu c.n c.F c.W c.K=true)(a:Option Addr)(cap B p:Nat)(fs:C)(w:Z)(hB:B<=w.1.size)(N:zx 111 113 B w p Xd fs)(m:∀w',zo (foot p fs) w w'->TS w' a c.n c.F c.W c.K)(f:Zz w)(l:∀k,foot p fs k->k≠Qm):
  Calls prog 29 #[.agg #[I O c.s,I O c.le,I O c.la,I O c.wi,I O c.ke,I O c.qu,.slice a c.n cap],.pointer (Y ⟨p,0,E⟩)] w fun e w'=>∃i:Ids,i.d=p/\e=.returned (.tuple #[.pointer (Y ⟨i.x,0,E⟩),I O 0])/\zA w' i c 1 ⟨0,[],[],0,[],[]⟩/\zo (foot p fs) w w'/\∀k,xb w' i k->foot p fs k\/w.1.size<=k:=by
 obtain⟨g,y,z⟩:=zho
 have M:((yD (Qq Xd) yb).extract 0 (zgO (yD (Qq Xd) yb))).size=0:=by rw[g,zgg];simp[ByteArray.size]
 have j:DOk Xd 10:=⟨by simp[Xd],by simp[Xd],by simp[Xd],by simp[Xd]⟩
 refine(zjL c t T a cap p Xd fs w N.zero 10 (by omega) j y m f l ms0 (fun _ _=>True) (fun _ _ _ _=>trivial) (zdN c _ M _) ⟨by decide,by decide⟩ (by intro x o;cases o) (by decide) (by decide) (by intro p h;cases h) (by decide) (fun u h=>by rw[g];exact(zdR _ _).2.1)).mono ?_
 rintro e w' ⟨i,u,v,S,Q,h,q,L,J,H⟩
 have A:u=[]:=h.eq_nil
 have D:=Jr L rfl rfl
 subst A
 subst D
 obtain⟨V,r2,X⟩:=zdR 1 (xU 0 [])
 rw[z]at q
 have b:zah (Qq Xd) (xU 0 []) 0=(xU 0 []).size+1:=by unfold zah;rw[g,X];rfl
 have U:=zdM
 refine⟨i,S,Q,⟨_,xU 0 []++nl,[],q,rfl,?_,by omega,?_,?_,.start _ _ _ R (SOk.new t) (by intro x o;cases o) (fun _=>⟨rfl,rfl,rfl⟩)⟩,J,H⟩
 ·show zbx (Qq Xd) (xU 0 [])=_;rw[g,V];rfl
 ·show 0<=zah (Qq Xd) (xU 0 []) 0/\zah (Qq Xd) (xU 0 []) 0<=100000000000;rw[b];omega
 ·show((xU 0 []++nl).size:Int)<=2*zah (Qq Xd) (xU 0 []) 0+4096;rw[b,XZ];omega
def StK(w w':Z):Prop:=∀(q:Nat) (cs:Array C) (a:Nat×Nat),w.1[q]?=Y (.cells cs 37 a)->w'.1[q]?=Y (.cells cs 37 a)
theorem StK.refl(w:Z):StK w w:=fun _ _ _ h=>h
theorem StK.trans{a b d:Z}(h:StK a b)(f:StK b d):StK a d:=fun q cs c e=>f q cs c (h q cs c e)
theorem StK.below{w w':Z}(h:G w.1.size w w'):StK w w':=fun q cs a e=>(h.block q (za e)).trans e
theorem StK.kept{f:Nat->Prop}{w w':Z}(h:zo f w w')(b:∀q cs a,w.1[q]?=Y (.cells cs 37 a)->¬f q):StK w w':=fun q cs a e=>h.heap e (b q cs a e)
theorem StK.drew{w w':Z}(h:StK w w'):StK w w'.drew:=h
theorem StK.alloc{w w':Z}(h:StK w w')(o:Obj):StK w (w'.alloc o):=h.trans (StK.below ((P _ _).alloc (r _) o))
theorem StK.row{w w':Z}{B:Nat}{e:TypeId}{size n:Nat}{v:C}{xs:List C}(h:w.ownsRow B e size v n xs)(c:e≠37)(d:zo (fun k=>v.ownBlock=Y k) w w'):StK w w':=
 StK.kept d (fun q cs g f hv=>by
  obtain⟨b,a⟩:=zH h hv
  rw[f]at a
  injection a with a;injection a with _ a;exact c a.symm)
theorem StK.set{w:Z}{g i:Nat}{cs:Array C}{t:TypeId}{d:Nat×Nat}(j:w.1[g]?=Y (.cells cs t d))(l:t≠37)(v:C):StK w (w.setCell ⟨g,i,E⟩ v):=
 StK.kept (f:=fun k=>k=g) (zo.setCell (f:=fun k=>k=g) (zo.refl _ _) (p:=⟨g,i,E⟩) (fun _=>rfl) v) (fun q b h a e=>by
  have c:q=g:=e
  rw[c,j]at a
  injection a with a;injection a with _ a;exact l a)
theorem StK.mill{w w':Z}{i:Ids}{c:Cf}{ep:Int}{m:MS}(h:zA w i c ep m)(a:Kx i w w'):StK w w':=
 StK.kept a.kept (fun q cs d b=>h.tag b (by decide))
structure Bel(B:Nat)(w w':Z):Prop where
 bel:G B w w'
 stk:StK w w'
section
variable {B:Nat} {w a b:Z}
theorem Bel.size(h:Bel B w a):w.1.size<=a.1.size:=h.bel.size
theorem Bel.trans(h:Bel B w a)(c:Bel B a b):Bel B w b:=⟨h.bel.trans c.bel,h.stk.trans c.stk⟩
theorem Bel.drew(h:Bel B w a):Bel B w a.drew:=⟨h.bel.drew,h.stk⟩
theorem Bel.alloc(h:Bel B w a)(b:B<=a.1.size)(o:Obj):Bel B w (a.alloc o):=⟨h.bel.alloc b o,h.stk.alloc o⟩
theorem Bel.of(h:G w.1.size w a)(b:B<=w.1.size):Bel B w a:=⟨h.mono b,StK.below h⟩
theorem Bel.mill{i:Ids}{c:Cf}{ep:Int}{m:MS}(h:zA w i c ep m)(d:Kx i w a)(e:B<=w.1.size)(b:∀j,xb w i j->B<=j):Bel B w a:=⟨d.kept.below e b,StK.mill h d⟩
theorem Bel.row{e:TypeId}{size n:Nat}{v:C}{xs:List C}(h:w.ownsRow B e size v n xs)(d:e≠37)(b:zo (fun k=>v.ownBlock=Y k) w a)(c:B<=w.1.size):Bel B w a:=⟨b.below c (fun q f=>(h.lt q f).1),StK.row h d b⟩
theorem Bel.set{g i:Nat}{cs:Array C}{t:TypeId}{b:Nat×Nat}(a:w.1[g]?=Y (.cells cs t b))(d:t≠37)(c:B<=g)(v:C):Bel B w (w.setCell ⟨g,i,E⟩ v):=
 ⟨(zo.setCell (f:=fun k=>k=g) (zo.refl _ _) (p:=⟨g,i,E⟩) (fun _=>rfl) v).below (Nat.le_of_lt (Nat.lt_of_le_of_lt c (za a))) (fun q e=>by have h:q=g:=e;omega),StK.set a d v⟩
theorem Bel.unt{g k cap i:Nat}{us:List Int}(h:w.ownsRow B 3 1 (.slice (Y ⟨g,0,E⟩) k cap) us.length (us.map (I O)))(v:C):Bel B w (w.setCell ⟨g,i,E⟩ v):=by
 obtain⟨a,b⟩:=zH h (k:=g) rfl
 exact Bel.set b (by decide) (h.lt g rfl).1 v
end
def Yo(n:Int)(t:Nat)(us:List Int):List Int:=(us.take t).map (zbT n)++us.drop t
theorem JN(n:Int)(t:Nat)(us:List Int):(Yo n t us).length=us.length:=by unfold Yo;simp;omega
theorem zcI(n:Int)(us:List Int):Yo n 0 us=us:=by simp[Yo]
theorem zff(n:Int)(us:List Int):Yo n us.length us=us.map (zbT n):=by simp[Yo]
theorem zhB(n:Int)(t:Nat)(us:List Int)(a:t<us.length):(Yo n t us)[t]?=us[t]?:=by
 unfold Yo
 rw[List.getElem?_append_right (by simp;omega)]
 simp[Nat.min_eq_left (Nat.le_of_lt a)]
theorem zcH(n:Int)(t:Nat)(us:List Int)(e:t<us.length):Yo n (t+1) us=(Yo n t us).set t (zbT n us[t]):=by
 apply List.ext_getElem?
 intro i
 rw[List.getElem?_set,JN]
 have c:∀b i,b<=us.length->(Yo n b us)[i]?=if i<b then us[i]?.map (zbT n)else us[i]?:=fun b i f=>by
  unfold Yo
  by_cases a:i<b
  ·rw[List.getElem?_append_left (by simp;omega),if_pos a,List.getElem?_map,List.getElem?_take_of_lt a]
  ·rw[List.getElem?_append_right (by simp;omega),if_neg a]
   simp[Nat.min_eq_left f]
   congr 1
   omega
 rw[c _ _ (by omega),c _ _ (by omega)]
 by_cases a:t=i
 ·subst a
  rw[if_pos (by omega),if_pos rfl,if_pos e]
  simp[e]
 ·rw[if_neg a]
  by_cases d:i<t
  ·rw[if_pos (by omega),if_pos d]
  ·rw[if_neg (by omega),if_neg d]
theorem zfg{n u:Int}(h:u<=n):zbT n u=0:=by unfold zbT;rw[if_pos h]
theorem zcJ{n u:Int}(h:¬u<=n):zbT n u=u:=by unfold zbT;rw[if_neg h]
theorem zgs{l:List Int}{t:Nat}{u:Int}(h:l[t]?=Y u):l.set t u=l:=by
 apply List.ext_getElem?
 intro i
 rw[List.getElem?_set]
 split
 ·rename_i e;subst e
  obtain⟨a,b⟩:=List.getElem?_eq_some_iff.1 h
  rw[if_pos a,h]
 ·rfl
theorem ZH(w:Z)(g i:Nat)(v:C):zo (fun k=>k=g) w (w.setCell ⟨g,i,E⟩ v):=zo.setCell (f:=fun k=>k=g) (zo.refl _ _) (p:=⟨g,i,E⟩) (fun _=>rfl) v
section
variable {w:Z} {B p:Nat} {c:Cf} {ep:Int} {m:MS} {ns:List Nm} {j:Nat}
theorem vC.size(h:vC w B p c ep m ns j):B<=w.1.size:=by
 obtain⟨s,k,rfl,a,_⟩:=h
 have:=a.lo;have:=a.lt;omega
end
theorem zbK{w:Z}{B p:Nat}{c:Cf}{ep:Int}{m:MS}{ns:List Nm}{j:Nat}(x:vC w B p c ep m ns j)(n:Int)(hn:1<=n/\n<=1000)(t:100000<m.now+n):
  Calls prog 17 #[.pointer (Y ⟨p,0,E⟩),I O n] w fun e w'=>e=.returned (.bool true)/\G w.1.size w w':=by
 obtain⟨s,k,rfl,h,F,g,_⟩:=x
 obtain⟨A,_,_,_,_,_,o,_⟩:=h.cells
 have d:=h.lt
 have b:=g.ok.now
 have l:=fun W (q:G w.1.size w W)=>zd (zdv (h.later q).mill n (.inr (.inr t)) b)
 obtain⟨u,v⟩:=hn
 obtain⟨y,z⟩:=b
 clear h g
 go_enter func17,ntmps17
 go_wp2_with(first|(go_at_call 26;refine(ud (l _ (P _ _))).mono ?_;rintro e H ⟨rfl,a⟩;have D:=(a.cell (p:=⟨s.p,9,E⟩) d).trans o;have i:=z7 d a.size;have f:=zd a;clear a))
 go_ret
 exact⟨rfl,ud f⟩
theorem zbJ{w:Z}{B p:Nat}{c:Cf}{ep:Int}{m:MS}{ns:List Nm}{j:Nat}(hs:vC w B p c ep m ns j)(R:c.ok)(hf:c.fits)(n:Int)(hn:1<=n/\n<=1000)(hl:m.now+n<=100000)(hj:j<=4398046511104):
  Calls prog 17 #[.pointer (Y ⟨p,0,E⟩),I O n] w fun e w'=>e=.returned (.bool true)/\∃m',yn c ep m ns m' ns/\vC w' B p c ep m' ns j/\Bel B w w':=by
 have al:=hs.size
 obtain⟨⟨N,si,sd,a6,a8,a7,aB⟩,k,rfl,h,hk,f,ah,ai⟩:=hs
 dsimp only at*
 obtain⟨c0,_,_,_,_,_,c9,_,_,W⟩:=h.cells
 have a3:=h.lt
 have z:=f.ok.now
 obtain⟨ua,uc,M⟩:=zL h.urow
 rw[zV]at M
 dsimp only at M c0 c9 W a3
 subst M
 have HT:=zd (QX h.mill R n hn ⟨z.1,hl⟩ (f.ok.binv R) f.ok.seg.inr (by have:=f.ok.seg.len400 R;omega) (fun T Q he=>by
  have X:=(J5 (ep:=ep) (c:=c) (L:=m.L) (num:=m.num) (show m.now<=m.now+n by omega) f.ok.td f.ok.nt f.ok.leas f.ok.nq f.ok.jobs he)
  have h8:=Zl (zE T) (zE m.TL) X.2.1 (fun x hx=>(X.2.2.2.2.2.2.2 x).1 hx)
  have h7:=f.ok.t800 R
  simp[zE]at h8
  omega))
 have hd:decide (100000<m.now+n)=false:=by simp;omega
 have aA:IntKind.i64.wrap (m.now+n)=m.now+n:=by rw[IntKind.wrap_i64];omega
 have H:=zd h
 have HO:=zd f
 obtain⟨a2,aw⟩:=hn
 obtain⟨ay,az⟩:=z
 clear h f W
 go_enter func17,ntmps17
 go_wp2_with(first|(go_at_call 26;refine(ud HT).mono ?_;rintro e w1 ⟨rfl,ad,s,F,hM,hK,he,hq,hp⟩;have a:=(ud H).putMill hM hK;have a0:=a.setNow (m.now+n);have d9:=(a.cells).2.2.2.2.2.2.1;dsimp only at d9;have df:=fun j=>zC a.head j;have A:=a.lt;dsimp only at A df;have U:=zd a0;have HA:=zd (yn.ticked (c:=c) (ep:=ep) m ns n ad F s a2 hl he hq hp);have HU:=zd (((ud HO).tick R hf a2 hl he hq hp).2 k);have HK:=zd (Bel.mill (ud H).mill hK al (ud H).mlo);have ab:=zd a.head;clear hM hK he hq hp a a0))
 have ak:B<=N:=(ud H).lo
 have a4:zM (w1.setCell ⟨N,9,E⟩ (I O (m.now+n))) B ⟨N,si,sd,a6,a8,a7,.slice ua k uc⟩ c ep {m with now:=m.now+n,TL:=F,QL:=s} (m.now+n) ns (vW ep k) (Yo (m.now+n) 0 (qV ep m.QL k)):=by rw[zcI];exact ud U
 have hbs:Bel B w (w1.setCell ⟨N,9,E⟩ (I O (m.now+n))):=(ud HK).trans (Bel.set (ud ab) (by decide) ak _)
 have ac:=zd a4
 have aa:=zd hbs
 have a5:=zV ep m.QL k
 have q:=zd a5
 clear a4 hbs d9 df A c0 c9 a3 U HT a5
 go_loopw [6] (fun y wr=>∃(t:Nat),t<=k/\y=I O t/\zM wr B ⟨N,si,sd,a6,a8,a7,.slice ua k uc⟩ c ep {m with now:=m.now+n,TL:=F,QL:=s} (m.now+n) ns (vW ep k) (Yo (m.now+n) t (qV ep m.QL k))/\Bel B w wr) (fun y _=>k-(intOf y).toNat)
 case atStart=>exact⟨0,Nat.zero_le _,rfl,ud ac,ud aa⟩
 case round=>
  obtain⟨t,ax,rfl,i,hb⟩:=hrel
  obtain⟨-,-,-,-,-,-,e9,-,-,ae⟩:=i.cells
  dsimp only at e9 ae
  have aj:=i.lt
  dsimp only at aj
  have av:(k:Int)<=4398046511104:=by omega
  by_cases d:t<k
  ·have ap:(t:Int)<k:=by omega
   have b:=JN (m.now+n) t (qV ep m.QL k)
   rw[ud q]at b
   obtain⟨g,gc,K,au,af,ar⟩:=jn i.urow (j:=t) (by rw[b];exact d)
   rw[b]at K
   dsimp only at K
   cases K
   have J:(Yo (m.now+n) t (qV ep m.QL k))[t]?=Y (vu m.QL ⟨ep,(t:Int)+1⟩):=by rw[zhB _ _ _ (by rw[ud q];exact d),kM _ _ _ _ d]
   have hu:(Yo (m.now+n) t (qV ep m.QL k))[t]'(by rw[b];exact d)=vu m.QL ⟨ep,(t:Int)+1⟩:=by have:=List.getElem?_eq_some_iff.1 J;exact this.2
   rw[hu]at af
   have l:Yo (m.now+n) (t+1) (qV ep m.QL k)=(Yo (m.now+n) t (qV ep m.QL k)).set t (zbT (m.now+n) (vu m.QL ⟨ep,(t:Int)+1⟩)):=by
    rw[zcH _ _ _ (by rw[ud q];exact d)]
    congr 2
    have:=List.getElem?_eq_some_iff.1 (kM ep m.QL k t d)
    exact this.2
   have v:=zd l
   have a9:=zd J
   have o:=zd i
   have D:=i.setUnt (g:=g) (cap:=uc) (by rw[b]) t 0
   have V:=zd D
   have aq:B<=g:=(i.urow.lt g rfl).1
   have S:=zd hb
   have ag:¬g=N:=zu i.head i.urow (by decide) g rfl
   have am:¬N=g:=fun e=>ag e.symm
   clear i b l J D hu hb
   generalize vu m.QL ⟨ep,(t:Int)+1⟩=u at*
   by_cases a1:u<=m.now+n
   ·go_wp2_with fail
    go_still (by kernel_rfl)
    go_wp2_with fail
    go_roundw
    case rel=>
     refine⟨t+1,by omega,by go_num,?_,((ud S).trans (Bel.unt (ud o).urow _)).drew⟩
     rw[ud v,zfg a1]
     exact(ud V).later (P _ _).drew
    case measure=>simp[intOf];omega
   ·have an:decide (u<=m.now+n)=false:=by simpa using a1
    go_wp2_with fail
    go_still (by kernel_rfl)
    go_wp2_with fail
    go_roundw
    case rel=>
     refine⟨t+1,by omega,by go_num,?_,(ud S).drew⟩
     rw[ud v,zcJ (by omega),zgs (ud a9)]
     exact(ud o).later (P _ _).drew
    case measure=>simp[intOf];omega
  ·have ao:decide ((t:Int)<k)=false:=by simp;omega
   have o:=zd i
   clear i
   go_wp2_with fail
   go_ret
   have ht:t=k:=by omega
   subst ht
   have X:=ud o
   have h8:Yo (m.now+n) t (qV ep m.QL t)=qV ep s t:=by
    have e1:=zff (m.now+n) (qV ep m.QL t)
    rw[ud q]at e1
    rw[e1,ud HU]
   rw[h8]at X
   exact⟨rfl,_,ud HA,⟨_,t,rfl,X,hk,(ud HA).ok R hf (ud HO),ah,ai⟩,hb⟩
theorem zjo{w:Z}{i:Ids}(h:zA w i awC 1 ⟨0,[],[],0,[],[]⟩):
  Calls prog 27 #[.pointer (Y ⟨i.x,0,E⟩),I O 1,I O 0,I i32 7] w fun e w'=>e=.returned (I O 0)/\zA w' i awC 1 zkh/\Kx i w w':=
 (Ji h jx 1 0 7 (by omega) (by dsimp only;omega) (by decide) (by decide) (by omega) (by decide) (by intro p c;cases c) (fun k f=>rfl) (by decide) (by decide) (by intro p c;cases c)).mono fun e w' ⟨a,b,d⟩=>⟨a,b,d⟩
theorem zhn{w:Z}{i:Ids}(h:zA w i awC 1 zkh):
  Calls prog 26 #[.pointer (Y ⟨i.x,0,E⟩),I O 6] w fun e w'=>e=.returned (I O 0)/\zA w' i awC 1 zki/\Kx i w w':=by
 refine(QX h jx 6 (by omega) (by decide) ⟨(fun p a=>by cases a),(fun p a=>by cases a),(fun p a=>by cases a),by decide,by decide,by decide⟩ ?_ (by decide) ?_).mono ?_
 ·intro p a
  simp[zkh,zcj]at a
  rcases a with rfl|rfl
  ·exact QG
  ·exact Kr
 ·intro T Q q
  rw[(JR q).1];simp
 ·rintro e w' ⟨k,d,b,c,l,m,n,s,o⟩
  obtain⟨f,g⟩:=JR n
  subst f
  subst g
  have j:=zfb o
  subst j
  exact⟨k,l,m⟩
theorem zcl{w:Z}{i:Ids}{m:MS}(h:zA w i awC 1 m){k:Jk}{x:Tsk}(d:m.TL=[(k,x)])(c:m.QL=[])(hn:m.now=6)(y:Xs awC 6 x)(u:x.rest<=6)(j:m.num=0\/m.num=1)(v:0<=zm m.L/\zm m.L<=1000):
  Calls prog 18 #[.pointer (Y ⟨i.x,0,E⟩),I O 0] w fun e w'=>e=.returned (.tuple #[.agg #[I O x.kd,I O x.s.t,I O x.s.sr,I O x.s.wa,I O x.se,I O x.ti,I O x.rest,I O 1,I O (m.num+1),I O 0,I O 15],I O 0])/\zA w' i awC 1 {m with num:=m.num+1,QL:=qr m.QL ⟨1,m.num+1⟩ ⟨x.kd,x.s,0,15⟩}/\Kx i w w':=by
 refine(KW h jx 0 (by decide) (by omega) ?_ (by rw[c];simp) (by omega) (by unfold xg;omega) (by rw[c];intro q o;cases o) v).mono ?_
 ·intro p a
  rw[d]at a
  simp at a
  subst a
  rw[hn];exact y
 ·rintro e w' (⟨_,_,b⟩|⟨_,_,b⟩|⟨p,a,_,f,g,n⟩)
  ·rw[c]at b;simp at b
  ·have:=b (k,x) (by rw[d];simp)
   unfold kG at this
   rw[c,hn]at this
   simp[kJ,u]at this
  ·rw[d]at a
   simp at a
   subst a
   have l:m.now+awC.le=15:=by rw[hn];rfl
   rw[l]at f g
   exact⟨f,g,n⟩
theorem zeZ{w:Z}{i:Ids}(h:zA w i awC 1 zki):
  Calls prog 18 #[.pointer (Y ⟨i.x,0,E⟩),I O 0] w fun e w'=>e=.returned (.tuple #[.agg #[I O 1,I O 0,I O 1,I O 0,I O 6,I O 0,I O 0,I O 1,I O 1,I O 0,I O 15],I O 0])/\zA w' i awC 1 zje/\Kx i w w':=
 zcl (m:=zki) h rfl rfl rfl ⟨by decide,by decide,by decide,by decide⟩ (by decide) (.inl rfl) (by decide)
theorem zfa{w:Z}{i:Ids}(h:zA w i awC 1 zkj):
  Calls prog 18 #[.pointer (Y ⟨i.x,0,E⟩),I O 0] w fun e w'=>e=.returned (.tuple #[.agg #[I O 2,I O (-1),I O 1,I O 0,I O 6,I O 0,I O 0,I O 1,I O 2,I O 0,I O 15],I O 0])/\zA w' i awC 1 zkk/\Kx i w w':=
 zcl (m:=zkj) h rfl rfl rfl ⟨by decide,by decide,by decide,by decide⟩ (by decide) (.inr rfl) (by decide)
theorem zhk{w:Z}{i:Ids}(h:zA w i awC 1 zje):
  Calls prog 20 #[.pointer (Y ⟨i.x,0,E⟩),.agg #[I O 1,I O 1]] w fun e w'=>e=.returned (I O 0)/\zA w' i awC 1 zkj/\Kx i w w':=by
 refine(XC h jx ⟨1,1⟩ (by unfold Tok.wf xg;dsimp only;omega) (g:=⟨1,awT,0,15⟩) rfl (by unfold Jk.wf Lse.job xg;exact⟨by dsimp only;omega,Kr.1⟩) awT 6 0 0 rfl Kr 0 rfl (by decide) (by decide) ?_ (by decide) (by decide) (by decide)).mono ?_
 ·rw[show ya zje.L awT ⟨3,xz (xp awC zje.L awT.sr awT.wa 0)⟩=zeN from zcm]
  intro p a
  simp[zeN]at a
  rcases a with rfl|rfl
  ·exact QG
  ·exact Kr
 ·rw[show ya zje.L awT ⟨3,xz (xp awC zje.L awT.sr awT.wa 0)⟩=zeN from zcm]
  rintro e w' ⟨d,b,f,j,k⟩
  have c:=zfc (num:=1) k
  subst c
  exact⟨d,f,j⟩
theorem zhl{w:Z}{i:Ids}(h:zA w i awC 1 zkk):
  Calls prog 20 #[.pointer (Y ⟨i.x,0,E⟩),.agg #[I O 1,I O 2]] w fun e w'=>e=.returned (I O 0)/\(∃a,zA w' i awC 1 ⟨6,zjm,[(awR,())],2,a,[]⟩)/\Kx i w w':=by
 refine(jz h jx ⟨1,2⟩ (by unfold Tok.wf xg;dsimp only;omega) (g:=⟨2,awR,0,15⟩) rfl (by unfold Jk.wf Lse.job xg;exact⟨by dsimp only;omega,QG.1⟩) awR 6 0 0 rfl QG (by decide) (by decide) ?_ (by decide) (by decide) (by decide)).mono ?_
 ·intro p b
  rw[show xq zkk.L awR=zjm from rfl]at b
  simp[zjm]at b
  rcases b with rfl
  exact Kr
 ·rintro e w' ⟨c,a,d,f,j⟩
  exact⟨c,⟨a,d⟩,f⟩
theorem zkn{w:Z}{i:Ids}{a:List (Jk×Tsk)}(h:zA w i awC 1 ⟨6,zjm,[(awR,())],2,a,[]⟩):
  Calls prog 57 #[.pointer (Y ⟨i.x,0,E⟩),I O 0,I O 1,I O 0] w fun e w'=>e=.returned (.tuple #[.agg #[I O 1,I O 7,I i32 7,I i32 7],I O 0])/\G w.1.size w w':=yS h jx (by dsimp only;omega) 0 1 0 (by decide) (by decide) (by decide)
theorem zko{w:Z}{i:Ids}{a:List (Jk×Tsk)}(h:zA w i awC 1 ⟨6,zjm,[(awR,())],2,a,[]⟩):
  Calls prog 57 #[.pointer (Y ⟨i.x,0,E⟩),I O (-1),I O 1,I O 0] w fun e w'=>e=.returned (.tuple #[.agg #[I O 0,I O 0,I i32 0,I i32 0],I O 12])/\G w.1.size w w':=yS h jx (by dsimp only;omega) (-1) 1 0 (by decide) (by decide) (by decide)
theorem zkp{W:Z}{ta:Nat}(h:W.1[ta]?=Y (.cells #[I O (-1),I O 2,I O 100] 80 (0,0))):TS W (Y ⟨ta,0,E⟩) awC.n awC.F awC.W awC.K:=fun _=>by
 refine⟨ta,0,rfl,za h,fun i a=>?_⟩
 obtain rfl:i=0:=by have:awC.n=1:=rfl;omega
 exact⟨by rw[xD h];rfl,by rw[xD h];rfl,by rw[xD h];rfl⟩
theorem Kx.foot{i:Ids}{w w':Z}(h:Kx i w w'){k:Nat}(a:xb w' i k):xb w i k\/w.1.size<=k:=by
 rcases a with e|e
 ·exact .inl (.inl e)
 ·rcases h.fs k e with e|e
  ·exact .inl (.inr e)
  ·exact .inr e
theorem Kx.not{i:Ids}{w w':Z}(h:Kx i w w'){k:Nat}(hn:¬xb w i k)(a:k<w.1.size):¬xb w' i k:=fun e=>by
 rcases h.foot e with e|e
 ·exact hn e
 ·omega
theorem zay{w M b:Z}{i:Ids}(c:G w.1.size w M)(d:Kx i M b)(a:∀k,xb M i k->w.1.size<=k):G w.1.size w b:=c.trans (d.kept.below c.size a)
theorem zck{w M b:Z}{i:Ids}(c:G w.1.size w M)(d:Kx i M b)(a:∀k,xb M i k->w.1.size<=k):∀k,xb b i k->w.1.size<=k:=fun k e=>by
 rcases d.foot e with e|e
 ·exact a k e
 ·exact Zq3 c.size e
theorem zjp{M:Z}{i:Ids}{c:Cf}{ep:Int}{m:MS}{B:Nat}(h:zA M i c ep m)(a:∀k,xb M i k->B<=k)(b:B<=M.1.size)(o:Obj):∀k,xb (M.alloc o) i k->B<=k:=fun k e=>by
 rcases(h.below ((P _ _).alloc (r _) o)).foot e with e|e
 ·exact a k e
 ·omega
theorem zjq{M:Z}{i:Ids}{c:Cf}{ep:Int}{m:MS}(h:zA M i c ep m)(o:Obj):¬xb (M.alloc o) i M.1.size:=by
 obtain⟨q,txt,ns,a⟩:=h
 exact Zf a.at_ ((P _ _).alloc (r _) o)
theorem zkm{M a:Z}{i:Ids}{c:Cf}{ep:Int}{m:MS}{k:Nat}(h:zA M i c ep m)(b:G M.1.size M a)(hn:¬xb M i k)(d:k<M.1.size):¬xb a i k:=(h.below b).not hn d
theorem zhm{D:Z}{p B ta:Nat}(g:zx 111 113 B D p Xd (.slice E 0 0))(n:B<=D.1.size)(h:D.1[ta]?=Y (.cells #[I O (-1),I O 2,I O 100] 80 (0,0)))(a:Zz D)(f:p≠Qm):
  Hid (Calls prog 29 #[.agg #[I O 1,I O 9,I O 0,I O 2,I O 4,I O 9,.slice (Y ⟨ta,0,E⟩) 1 1],.pointer (Y ⟨p,0,E⟩)] D fun e M=>∃i:Ids,e=.returned (.tuple #[.pointer (Y ⟨i.x,0,E⟩),I O 0])/\zA M i awC 1 ⟨0,[],[],0,[],[]⟩/\zo (fun k=>k=p) D M/\∀k,xb M i k->k=p\/D.1.size<=k):=by
 have d:p≠ta:=fun e=>by
  have b:=g.head
  rw[e,h]at b
  cases b
 refine zd ((Vi awC jx zeY Ko (Y ⟨ta,0,E⟩) 1 B p (.slice E 0 0) D n g (fun w' c=>zkp (c.heap h (fun e=>?_))) a (fun k e=>?_)).mono ?_)
 ·rcases e with e|e
  ·exact d e.symm
  ·cases e
 ·rcases e with e|e
  ·rw[e];exact f
  ·cases e
 ·rintro e M ⟨i,_,b,j,l,m⟩
  exact⟨i,b,j,l.mono (fun k _ e=>by rcases e with e|e;exact e;cases e),fun k c=>by
   rcases m k c with(e|e)|e
   ·exact .inl e
   ·cases e
   ·exact .inr e⟩
theorem VU{X D M:Z}{b:Nat}(a:zo (fun k=>k=X.1.size) D M)(d:D.1.size=X.1.size+1)(c:b<X.1.size)(j:Nat):M.cell? ⟨b,j,E⟩=D.cell? ⟨b,j,E⟩:=zN a (show¬b=X.1.size by omega) (by omega)
theorem zcn(w:Z)(u:Zz w):Calls prog 36 #[] w fun e w'=>e=.returned (.bool true)/\G w.1.size w w':=by
 obtain⟨y0,y1,af,yz⟩:=box2 w (.cells #[I O (-1),I O 2,I O 100] 80) (.cells #[I O 1,I O 9,I O 0,I O 2,I O 4,I O 9,.slice (Y ⟨w.1.size,0,E⟩) 1 1] 27)
 obtain⟨c0,c1,c2,c3,c4,c5,c6,-⟩:=zc y1
 have Y0:=zd y0
 have h:=zd af
 have YZ:=zd yz
 have aq:=za y1
 have ap:=za y0
 clear y0 y1 af yz
 go_enter func36,ntmps36
 go_wp2_with fail
 generalize((w.alloc (.cells #[I O (-1),I O 2,I O 100] 80)).alloc (.cells #[I O 1,I O 9,I O 0,I O 2,I O 4,I O 9,.slice (Y ⟨w.1.size,0,E⟩) 1 1] 27))=X at*
 have c:w.1.size+1<X.1.size:=aq
 have HN:=fun W (hB:X.1.size<=W.1.size)=>zd (zdw X.1.size W hB)
 have HO:=fun D (h1:zx 111 113 X.1.size D X.1.size Xd (.slice E 0 0)) (h2:G X.1.size X D)=>zhm (ta:=w.1.size) h1 h2.size ((h2.block _ ap).trans (ud Y0)) (vx (vx u (ud h)) h2) (by have h3:=u.lt;have h4:=(ud h).size;omega)
 go_region_held3 (fun w'=>w'.cell? ⟨w.1.size+1,0,E⟩=Y (I O 1)/\w'.cell? ⟨w.1.size+1,1,E⟩=Y (I O 9)/\w'.cell? ⟨w.1.size+1,2,E⟩=Y (I O 0)/\w'.cell? ⟨w.1.size+1,3,E⟩=Y (I O 2)/\w'.cell? ⟨w.1.size+1,4,E⟩=Y (I O 4)/\w'.cell? ⟨w.1.size+1,5,E⟩=Y (I O 9)/\w'.cell? ⟨w.1.size+1,6,E⟩=Y (.slice (Y ⟨w.1.size,0,E⟩) 1 1)) (go_keep) (first
  |(go_at_call 38;(with_reducible refine(ud (HN _ ?hb)).mono ?_);(case hb=>exact r _);rintro e D ⟨rfl,hD,l,ag⟩;have g:G X.1.size X D:=⟨l.os,l.tape,l.output,l.size,l.block⟩;have ah:D.1.size=X.1.size+1:=ag;have d0:D.cell? ⟨w.1.size+1,0,E⟩=Y (I O 1):=(g.cell (p:=⟨w.1.size+1,0,E⟩) c).trans c0;have d1:D.cell? ⟨w.1.size+1,1,E⟩=Y (I O 9):=(g.cell (p:=⟨w.1.size+1,1,E⟩) c).trans c1;have d2:D.cell? ⟨w.1.size+1,2,E⟩=Y (I O 0):=(g.cell (p:=⟨w.1.size+1,2,E⟩) c).trans c2;have d3:D.cell? ⟨w.1.size+1,3,E⟩=Y (I O 2):=(g.cell (p:=⟨w.1.size+1,3,E⟩) c).trans c3;have d4:D.cell? ⟨w.1.size+1,4,E⟩=Y (I O 4):=(g.cell (p:=⟨w.1.size+1,4,E⟩) c).trans c4;have d5:D.cell? ⟨w.1.size+1,5,E⟩=Y (I O 9):=(g.cell (p:=⟨w.1.size+1,5,E⟩) c).trans c5;have d6:D.cell? ⟨w.1.size+1,6,E⟩=Y (.slice (Y ⟨w.1.size,0,E⟩) 1 1):=(g.cell (p:=⟨w.1.size+1,6,E⟩) c).trans c6;have HD:Hid (zx 111 113 X.1.size D X.1.size Xd (.slice E 0 0)):=hD;have v:=zd g;have j:=zd ah;clear hD l g ag ah HN)
  |(go_at_call 29;(first|(with_reducible refine(ud (HO _ (ud HD) (ud v))).mono ?_)|refine(ud (HO _ (ud HD) (ud v))).mono ?_);rintro e M ⟨i,rfl,hM,o,q⟩;have m0:M.cell? ⟨w.1.size+1,0,E⟩=Y (I O 1):=(VU o (ud j) c 0).trans d0;have m1:M.cell? ⟨w.1.size+1,1,E⟩=Y (I O 9):=(VU o (ud j) c 1).trans d1;have m2:M.cell? ⟨w.1.size+1,2,E⟩=Y (I O 0):=(VU o (ud j) c 2).trans d2;have m3:M.cell? ⟨w.1.size+1,3,E⟩=Y (I O 2):=(VU o (ud j) c 3).trans d3;have m4:M.cell? ⟨w.1.size+1,4,E⟩=Y (I O 4):=(VU o (ud j) c 4).trans d4;have m5:M.cell? ⟨w.1.size+1,5,E⟩=Y (I O 9):=(VU o (ud j) c 5).trans d5;have m6:M.cell? ⟨w.1.size+1,6,E⟩=Y (.slice (Y ⟨w.1.size,0,E⟩) 1 1):=(VU o (ud j) c 6).trans d6;have HM:=zd hM;have HK:=zd o;have am:=zd q;clear hM o q))
 have m:=ud v
 have q:∀k,xb M i k->w.1.size<=k:=fun k o=>by
  rcases ud am k o with e|e
  ·rw[e];exact(ud h).size
  ·exact Zq3 (ud h).size (Zq3 m.size e)
 have n:=(ud h).trans (m.mono (ud h).size)
 have S:=zd (n.trans ((ud HK).below n.size (fun k e=>by have:=(ud h).size;have e':k=X.1.size:=e;omega)))
 have a7:=zd q
 clear m q n c0 d0 m0 c1 d1 m1 c2 d2 m2 c3 d3 m3 c4 d4 m4 c5 d5 m5 c6 d6 m6
 go_wp2_with(first
  |(go_at_call 27;refine(zjo (ud HM)).mono ?_;rintro e M1 ⟨rfl,b,a⟩;have an:=zd b;have H:=zd (zay (ud S) a (ud a7));have a3:=zd (zck (ud S) a (ud a7));clear b a)
  |(go_at_call 26;refine(zhn (ud an)).mono ?_;rintro e M2 ⟨rfl,b,a⟩;have a8:=zd b;have J:=zd (zay (ud H) a (ud a3));have a4:=zd (zck (ud H) a (ud a3));clear b a)
  |(go_at_call 18;refine(zeZ (ud a8)).mono ?_;rintro e M3 ⟨rfl,b,a⟩;have f:=zay (ud J) a (ud a4);have a5:=zd (zjp b (zck (ud J) a (ud a4)) f.size (.cells #[I O 1,I O 0,I O 1,I O 0,I O 6,I O 0,I O 0,I O 1,I O 1,I O 0,I O 15] 51));have y:=(P M3.1.size M3).alloc (r _) (.cells #[I O 1,I O 0,I O 1,I O 0,I O 6,I O 0,I O 0,I O 1,I O 1,I O 0,I O 15] 51);have a9:=zd (b.later y);have K:=zd (f.alloc f.size (.cells #[I O 1,I O 0,I O 1,I O 0,I O 6,I O 0,I O 0,I O 1,I O 1,I O 0,I O 15] 51));have U:=zd (zk M3 (.cells #[I O 1,I O 0,I O 1,I O 0,I O 6,I O 0,I O 0,I O 1,I O 1,I O 0,I O 15] 51));have ae:Hid (¬xb (M3.alloc (.cells #[I O 1,I O 0,I O 1,I O 0,I O 6,I O 0,I O 0,I O 1,I O 1,I O 0,I O 15] 51)) i M3.1.size):=zjq b _;clear b a f y a8)
  |(go_at_call 20;refine(zhk (ud a9)).mono ?_;rintro e M4 ⟨rfl,b,a⟩;have ab:=zd b;have L:=zd (zay (ud K) a (ud a5));have a6:=zd (zck (ud K) a (ud a5));have s:=zd (a.kept.heap (ud U) (ud ae));have t:=zd (a.not (ud ae) (za (ud U)));clear b a a9)
  |(go_at_call 18;refine(zfa (ud ab)).mono ?_;rintro e M5 ⟨rfl,b,a⟩;have f:=zay (ud L) a (ud a6);have al:=zd (zjp b (zck (ud L) a (ud a6)) f.size (.cells #[I O 2,I O (-1),I O 1,I O 0,I O 6,I O 0,I O 0,I O 1,I O 2,I O 0,I O 15] 51));have aa:=zd (zkm b ((P _ _).alloc (r _) (.cells #[I O 2,I O (-1),I O 1,I O 0,I O 6,I O 0,I O 0,I O 1,I O 2,I O 0,I O 15] 51)) (a.not (ud t) (za (ud s))) (za (a.kept.heap (ud s) (ud t))));have y:=(P M5.1.size M5).alloc (r _) (.cells #[I O 2,I O (-1),I O 1,I O 0,I O 6,I O 0,I O 0,I O 1,I O 2,I O 0,I O 15] 51);have ac:=zd (b.later y);have ai:=zd (f.alloc f.size (.cells #[I O 2,I O (-1),I O 1,I O 0,I O 6,I O 0,I O 0,I O 1,I O 2,I O 0,I O 15] 51));have aj:=zd ((Below.heap_alloc _ (.cells #[I O 2,I O (-1),I O 1,I O 0,I O 6,I O 0,I O 0,I O 1,I O 2,I O 0,I O 15] 51) _ (za (a.kept.heap (ud s) (ud t)))).trans (a.kept.heap (ud s) (ud t)));have ak:=zd (zk M5 (.cells #[I O 2,I O (-1),I O 1,I O 0,I O 6,I O 0,I O 0,I O 1,I O 2,I O 0,I O 15] 51));have ao:Hid (¬xb (M5.alloc (.cells #[I O 2,I O (-1),I O 1,I O 0,I O 6,I O 0,I O 0,I O 1,I O 2,I O 0,I O 15] 51)) i M5.1.size):=zjq b _;clear b a f y ab)
  |(go_at_call 20;refine(zhl (ud ac)).mono ?_;rintro e M6 ⟨rfl,⟨ar,b⟩,a⟩;have x:=zd b;have N:=zd (zay (ud ai) a (ud al));have V:=zd (a.kept.heap (ud aj) (ud aa));have a1:=zd (a.kept.heap (ud ak) (ud ao));clear b a ac)
  |(go_at_call 57;refine(zkn (ud x)).mono ?_;rintro e M7 ⟨rfl,z⟩;have y:=(P M7.1.size M7).alloc (r _) (.cells #[I O 1,I O 7,I i32 7,I i32 7] 115);have d:=z.alloc z.size (.cells #[I O 1,I O 7,I i32 7,I i32 7] 115);have ad:=zd ((ud x).later d);have Q:=zd ((ud N).trans (d.mono (ud N).size));have a0:=zd ((d.block _ (za (ud V))).trans (ud V));have a2:=zd ((d.block _ (za (ud a1))).trans (ud a1));have T:=zd (zk M7 (.cells #[I O 1,I O 7,I i32 7,I i32 7] 115));clear z d y x)
  |(go_at_call 57;refine(zko (ud ad)).mono ?_;rintro e M8 ⟨rfl,d⟩;have R:=zd ((ud Q).trans (d.mono (ud Q).size));have B:=(d.block _ (za (ud a0))).trans (ud a0);have F:=(d.block _ (za (ud a2))).trans (ud a2);have A:=(d.block _ (za (ud T))).trans (ud T);obtain⟨i0,-⟩:=zc B;obtain⟨j0,-⟩:=zc F;obtain⟨d0,d1,-⟩:=zc A;have li:=za B;have lj:=za F;have ld:=za A;clear d B F A ad))
 go_ret
 exact⟨rfl,(ud R).alloc (ud R).size _⟩
end Go.Proofs.YtndhpgciopcncaaGreatDoor
