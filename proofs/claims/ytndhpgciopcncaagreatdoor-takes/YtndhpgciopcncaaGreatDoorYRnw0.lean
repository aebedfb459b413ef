import Derived.Test.YtndhpgciopcncaaGreatDoorYLad0
open Option renaming none → I
open Nat renaming lt_of_lt_of_le → J
open Option renaming some → K
open Go.RowKit renaming Below → O
open Go.RowKit.Below renaming refl → E
open Go.Value (int)
open Go.IntKind (i64)
set_option linter.unusedVariables false
set_option maxRecDepth 8000
set_option maxHeartbeats 8000000
open Go.Proofs.Tryz
namespace Go.Proofs.YtndhpgciopcncaaGreatDoor
open Go.RowKit Go.Maps Go.Shelf
def xT(now:Int)(xs:List SX):ByteArray:=⟨(JJ now xs).toArray⟩
theorem ZJ(now:Int)(xs:List SX):(xT now xs).size=(JJ now xs).length:=by simp[xT,ByteArray.size]
theorem XI{w w':World}(h:XN w)(a:O w.1.size w w'):XN w':=Js h a
theorem zR.cells{w:World}{i:Ids}{c:Cf}{ep:Int}{m:MS}{q:JM}(h:zR w i c ep m q):w.cell? ⟨i.x,8,I⟩=K (int i64 m.now)/\w.cell? ⟨i.x,9,I⟩=K (.pointer (K ⟨i.s,0,I⟩))/\w.cell? ⟨i.x,10,I⟩=K (.pointer (K ⟨i.b,0,I⟩))/\w.cell? ⟨i.x,11,I⟩=K (.pointer (K ⟨i.j,0,I⟩))/\w.cell? ⟨i.x,12,I⟩=K (.bool q.dn):=by
 refine⟨?_,?_,?_,?_,?_⟩<;>rw[xd h.head]<;>rfl
theorem YY{w:World}{i:Ids}{c:Cf}{ep:Int}{m:MS}{q:JM}(h:zR w i c ep m q)(o:xR m.now)(z:∀x∈Xq m.L m.Gl,okX x)(a0:m.L.length<=1000000)(a5:m.Gl.length<=50000000)(N:Nat)(hN:N<=1000000000000)(hd:DOk q.S N):
  Calls prog 73 #[.pointer (K ⟨i.x,0,I⟩)] w fun e w'=>∃a:List SX,a.Perm (Xq m.L m.Gl)/\e=.returned (.bool (Yy q.S (xT m.now a)))/\zR w' i c ep m {q with st:=zbL q.S (xT m.now a) q.st,S:=zdj q.S (xT m.now a)}/\Kx i w w':=by
 obtain⟨x8,x9,-,a4,-⟩:=h.cells
 have P:=h.lt
 have Q:=fun W (A:O w.1.size w W)=>zd (zhY (h.later A).set a0 (by omega))
 have R:=Q w (E _ _)
 have X:=Q w.drew (E _ _).drew
 have u:=fun(a:List SX) (v:Value) W (k:a.Perm (Xq m.L m.Gl)) (A:O w.1.size w W) (hr:SRd W v a)=>zd (JE m.now o a (fun x hx=>z x (k.mem_iff.1 hx)) (by rw[k.length_eq];unfold Xq;rw[List.length_append,List.length_map];omega) v W hr (XI h.tab A))
 have t:=fun(a:List SX) W (k:a.Perm (Xq m.L m.Gl)) (A:O w.1.size w W)=>(by
  obtain⟨fs,hj⟩:=(h.later A).jrn
  have a6:(xT m.now a).size<=20000000000:=by
   rw[ZJ]
   have h1:=ZK o (fun x hx=>z x (k.mem_iff.1 hx))
   have h2:=k.length_eq
   unfold Xq at h2
   rw[List.length_append,List.length_map]at h2
   omega
  exact(zfe hj (xT m.now a) N (by omega) hd).mono fun e w' ⟨he,hE⟩=>(⟨he,(h.later A).putJrn hj hE⟩:e=.returned (.bool (Yy q.S (xT m.now a)))/\zR w' i c ep m {q with st:=zbL q.S (xT m.now a) q.st,S:=zdj q.S (xT m.now a)}/\Kx i W w'):Calls prog 133 #[.pointer (K ⟨i.j,0,I⟩),.string (xT m.now a)] W fun e w'=>e=.returned (.bool (Yy q.S (xT m.now a)))/\zR w' i c ep m {q with st:=zbL q.S (xT m.now a) q.st,S:=zdj q.S (xT m.now a)}/\Kx i W w')
 have C:=zd h.dlt
 clear h Q hd z
 go_enter func73,ntmps73
 go_wp2_with fail
 go_region_held3 (fun w'=>w'.cell? ⟨i.x,8,I⟩=K (int i64 m.now)/\w'.cell? ⟨i.x,9,I⟩=K (.pointer (K ⟨i.s,0,I⟩))/\w'.cell? ⟨i.x,11,I⟩=K (.pointer (K ⟨i.j,0,I⟩))) (go_keep) (first
  |(go_at_call 134;(first|(with_reducible refine(ud R).mono ?_)|(with_reducible refine(ud X).mono ?_));rintro e V ⟨a,v,k,rfl,l,d⟩;have f:O w.1.size w V:=⟨d.os,d.tape,d.output,d.size,d.block⟩;have v8:=(f.cell (p:=⟨i.x,8,I⟩) P).trans x8;have v9:=(f.cell (p:=⟨i.x,9,I⟩) P).trans x9;have a3:=(f.cell (p:=⟨i.x,11,I⟩) P).trans a4;have M:=J P f.size;have Y:=u a v V k f l;have Z:=u a v V.drew k f.drew (l.later (E _ _).drew);have B:=zd f;have r:=zd k;obtain⟨va,vc,a1⟩:=l.slice;subst a1;clear f d l k u)
  |(go_at_call 108;(first|(with_reducible refine(ud Y).mono ?_)|(with_reducible refine(ud Z).mono ?_));rintro e U ⟨rfl,b⟩;have g:O V.1.size V U:=⟨b.os,b.tape,b.output,b.size,b.block⟩;have u8:=(g.cell (p:=⟨i.x,8,I⟩) M).trans v8;have u9:=(g.cell (p:=⟨i.x,9,I⟩) M).trans v9;have a7:=(g.cell (p:=⟨i.x,11,I⟩) M).trans a3;have n:O w.1.size w U:=(ud B).trans (g.mono (ud B).size);have lU:=J M g.size;have D:=zd (t a U (ud r) n);have F:=zd (t a U.drew (ud r) n.drew);unfold xT at D F;have G:=zd n;clear g b n t)
  |(go_at_call 133;(with_reducible refine(ud D).mono ?_);rintro e T ⟨rfl,y,H⟩;obtain⟨t8,t9,-,a2,-⟩:=y.cells;have HM:=zd y;have HK:=zd ((Kx.below (ud G) (ud C)).trans H);clear y H)
  |(go_at_call 133;(with_reducible refine(ud F).mono ?_);rintro e T ⟨rfl,y,H⟩;obtain⟨t8,t9,-,a2,-⟩:=y.cells;have HM:=zd y;have HK:=zd ((Kx.below (ud G).drew (ud C)).trans H);clear y H))
 all_goals go_wp2_with fail
 all_goals go_ret
 all_goals exact⟨a,ud r,rfl,ud HM,ud HK⟩
def ZB(q:JM)(a:ByteArray):JM:={q with S:=JI q.S a}
def zkC(q:JM)(a:ByteArray):JM:={q with st:=zbL q.S a q.st,S:=zdj q.S a}
def vP(w':World)(i:Ids)(c:Cf)(ep:Int)(m:MS)(q:JM)(now:Int)(xs:List SX)(e:Ending):Prop:=
 (Z7 q.S (xT now xs)=false/\e=.returned (int i64 13)/\zR w' i c ep m {ZB q (xT now xs)with dn:=true})
 \/(Z7 q.S (xT now xs)=true/\e=.returned (int i64 0)/\((KN (JI q.S (xT now xs)) q.st=false/\zR w' i c ep (m.took now xs) (ZB q (xT now xs)))\/(KN (JI q.S (xT now xs)) q.st=true/\∃a:List SX,a.Perm (Xq (m.took now xs).L (m.took now xs).Gl)/\zR w' i c ep (m.took now xs) (zkC (ZB q (xT now xs)) (xT now a)))))
theorem Q9{w w':World}{i:Ids}{c:Cf}{ep:Int}{m:MS}{q:JM}{base:Nat}{v:Value}{xs:List SX}(h:zR w i c ep m q)(x:Kx i w w')(hv:jG w base v xs):jG w' base v xs:=zg hv x.kept (fun k p e=>by
 obtain⟨u,o⟩:=zz hv p
 obtain⟨fs,s⟩:=h.jrn
 have r:¬XS i k:=fun e=>by
  rcases h.otag k e with⟨l,y,n,b,f⟩|⟨A,z,t⟩
  ·have g:=yy o b
   rcases f with a|a|a|a<;>(rw[a]at g;exact absurd g (by decide))
  ·rw[o]at t;cases t
 have hn:¬vL i.j i.d fs k:=fun e=>by
  obtain⟨l,y,n,b,f⟩:=s.tag k e
  have g:=yy o b
  rcases f with a|a|a<;>(rw[a]at g;exact absurd g (by decide))
 rcases e with(e|e|e|e|e)|e
 ·exact r (.inl e)
 ·exact r (.inr (.inl e))
 ·exact r (.inr (.inr e))
 ·exact hn (.inl e)
 ·exact hn (.inr (.inl e))
 ·exact hn (.inr (.inr (s.fsB▸e))))
theorem zhy(m:MS)(now:Int)(xs:List SX):(m.took now xs).L.length<=m.L.length+xs.length/\(m.took now xs).Gl.length<=m.Gl.length+xs.length:=by
 have h:=Y5 xs (m.Gl,m.L)
 exact⟨h.2,h.1⟩
theorem zhT{S:DS}{N:Nat}(h:DOk S N)(a:ByteArray):DOk (JI S a) (N+a.size+3):=by
 have b:=kX h yk (a++nl)
 rw[QR]at b
 unfold JI;split
 ·exact yR b (by omega)
 ·exact yR (XU b yk) (by omega)
theorem QQ{w:World}{i:Ids}{c:Cf}{ep:Int}{m:MS}{q:JM}(h:zR w i c ep m q)(now:Int)(C:xR now)(xs:List SX)(Y:∀x∈xs,okX x)(a0:∀x∈Xq (m.took now xs).L (m.took now xs).Gl,okX x)(aA:xs.length<=1000)(ay:m.L.length<=900000)(az:m.Gl.length<=49000000)(N:Nat)(hN:N<=900000000000)(hd:DOk q.S N)(ak:0<=q.st/\q.st<=1099511627776)(base:Nat)(v:Value)(hv:jG w base v xs):
  Calls prog 52 #[.pointer (K ⟨i.x,0,I⟩),int i64 now,v] w fun e w'=>vP w' i c ep m q now xs e/\Kx i w w':=by
 obtain⟨ad,cap,rfl⟩:=hv.slice
 have aB:(xT now xs).size<=200000:=by
  rw[ZJ];have:=ZK C Y;omega
 obtain⟨X,P⟩:∃X,w.alloc (.cells #[int i64 now,.slice ad xs.length cap] 190)=X:=⟨_,rfl⟩
 have z:O w.1.size w X:=by rw[<-P];exact(E _ _).alloc (Nat.le_refl _) _
 have Q:X.1[w.1.size]?=K (.cells #[int i64 now,.slice ad xs.length cap] 190 (0,0)):=by rw[<-P];exact zr _ _
 have r:=h.later z
 have a3:jG X base (.slice ad xs.length cap) xs:=zM hv z
 have a1:=fun W (hW:O X.1.size X W)=>zd (JE now C xs Y (by omega) _ W (a3.rd.later hW) (XI r.tab hW))
 have H:=a1 X (E _ _)
 have M:=a1 X.drew (E _ _).drew
 have n:=fun W (hW:O X.1.size X W)=>(by
  obtain⟨fs,hj⟩:=(r.later hW).jrn
  exact(ziB hj (xT now xs) N (by omega) hd).mono fun e w' ⟨he,au,h1,h2,h3⟩=>(⟨he,(r.later hW).putJrn hj ⟨au,h1,jf h2,h3⟩⟩:e=.returned (.bool (Z7 q.S (xT now xs)))/\zR w' i c ep m (ZB q (xT now xs))/\Kx i W w'):Calls prog 107 #[.pointer (K ⟨i.j,0,I⟩),.string (xT now xs)] W fun e w'=>e=.returned (.bool (Z7 q.S (xT now xs)))/\zR w' i c ep m (ZB q (xT now xs))/\Kx i W w')
 obtain⟨-,-,-,al,-⟩:=r.cells
 obtain⟨b0,b1,-⟩:=zc Q
 have lx:=r.lt
 have lb:=zb Q
 have o:=zd r
 have G:=zd a3
 have ax:=zd Q
 have ae:=zd P
 have D:=zd (Kx.below z h.dlt)
 have A:=zhT hd (xT now xs)
 have B:∀W,O X.1.size X W->¬zT W i w.1.size:=fun W hW e=>by
  have h1:=h.foot_lt w.1.size (by
   rcases e with e|e
   ·exact .inl e
   ·right
    obtain⟨fs,hj⟩:=h.jrn
    have h2:fsB W i.d=fsB w i.d:=by
     unfold fsB
     rw[(hW.trans (E _ _)).cell (p:=⟨i.d,0,I⟩) r.dlt,z.cell (p:=⟨i.d,0,I⟩) h.dlt]
    rw[<-h2];exact e)
  omega
 have f:=zd B
 unfold vP
 clear h z Q r a3 P hv a1 B hd
 cases aj:Z7 q.S (xT now xs)
 ·simp only[aj]at n
  go_enter func52,ntmps52
  go_wp2_with fail
  rw[ud ae]
  go_region_held3 (fun w'=>w'.cell? ⟨i.x,11,I⟩=K (.pointer (K ⟨i.j,0,I⟩))/\w'.cell? ⟨w.1.size,0,I⟩=K (int i64 now)/\w'.cell? ⟨w.1.size,1,I⟩=K (.slice ad xs.length cap)) (go_keep) (first
   |(go_at_call 108;(first|(with_reducible refine(ud H).mono ?_)|(with_reducible refine(ud M).mono ?_));rintro e V ⟨rfl,b⟩;have g:O X.1.size X V:=⟨b.os,b.tape,b.output,b.size,b.block⟩;have aw:=(g.cell (p:=⟨i.x,11,I⟩) lx).trans al;have v0:=(g.cell (p:=⟨w.1.size,0,I⟩) lb).trans b0;have v1:=(g.cell (p:=⟨w.1.size,1,I⟩) lb).trans b1;have s:=J lb g.size;have t:=zd (n V g);have u:=zd (n V.drew g.drew);unfold xT at t u;have a:=zd g;clear g b n H M)
   |(go_at_call 107;(with_reducible refine(ud t).mono ?_);rintro e T ⟨rfl,l,k⟩;obtain⟨-,-,-,a5,a6⟩:=l.cells;have a7:=zH l.head 12;have t0:=(zF (i:=0) k.kept (ud f _ (ud a)) s).trans v0;have t1:=(zF (i:=1) k.kept (ud f _ (ud a)) s).trans v1;have lT:=J s k.size;have a4:=l.lt;have F:=zd (Q9 ((ud o).later (ud a)) k (zM (ud G) (ud a)));have HM:=zd l;have HK:=zd (((ud D).trans (Kx.below (ud a) (ud o).dlt)).trans k);clear l k)
   |(go_at_call 107;(with_reducible refine(ud u).mono ?_);rintro e T ⟨rfl,l,k⟩;obtain⟨-,-,-,a5,a6⟩:=l.cells;have a7:=zH l.head 12;have t0:=(zF (i:=0) k.kept (ud f _ (ud a).drew) s).trans v0;have t1:=(zF (i:=1) k.kept (ud f _ (ud a).drew) s).trans v1;have lT:=J s k.size;have a4:=l.lt;have F:=zd (Q9 ((ud o).later (ud a).drew) k (zM (ud G) (ud a).drew));have HM:=zd l;have HK:=zd (((ud D).trans (Kx.below (ud a).drew (ud o).dlt)).trans k);clear l k))
  all_goals go_wp2_with fail
  all_goals go_ret
  all_goals exact⟨.inl ⟨trivial,rfl,(ud HM).setDown.1⟩,(ud HK).trans (ud HM).setDown.2⟩
 ·simp only[aj]at n
  have av:=zhy m now xs
  have ac:=fun T (hT:zR T i c ep m (ZB q (xT now xs))) (hR:jG T base (.slice ad xs.length cap) xs)=>zd (zhu hT now xs (fun x hx=>(Y x hx).key) (by omega) (by omega) base _ hR)
  have a9:=fun T (hT:zR T i c ep (m.took now xs) (ZB q (xT now xs)))=>(by
   obtain⟨fs,hj⟩:=hT.jrn
   exact zd (zgC hj (N+(xT now xs).size+3) (by omega) A ak):Hid (Calls prog 110 #[.pointer (K ⟨i.j,0,I⟩)] T fun e w'=>e=.returned (.bool (KN (JI q.S (xT now xs)) q.st))/\O T.1.size T w'))
  have ar:=fun T (hT:zR T i c ep (m.took now xs) (ZB q (xT now xs)))=>zd (YY hT C a0 (by omega) (by omega) (N+(xT now xs).size+3) (by omega) A)
  clear Y a0 A ak av
  go_enter func52,ntmps52
  go_wp2_with fail
  rw[ud ae]
  go_region_held3 (fun w'=>w'.cell? ⟨i.x,11,I⟩=K (.pointer (K ⟨i.j,0,I⟩))/\w'.cell? ⟨w.1.size,0,I⟩=K (int i64 now)/\w'.cell? ⟨w.1.size,1,I⟩=K (.slice ad xs.length cap)) (go_keep) (first
   |(go_at_call 108;(first|(with_reducible refine(ud H).mono ?_)|(with_reducible refine(ud M).mono ?_));rintro e V ⟨rfl,b⟩;have g:O X.1.size X V:=⟨b.os,b.tape,b.output,b.size,b.block⟩;have aw:=(g.cell (p:=⟨i.x,11,I⟩) lx).trans al;have v0:=(g.cell (p:=⟨w.1.size,0,I⟩) lb).trans b0;have v1:=(g.cell (p:=⟨w.1.size,1,I⟩) lb).trans b1;have s:=J lb g.size;have t:=zd (n V g);have u:=zd (n V.drew g.drew);unfold xT at t u;have a:=zd g;clear g b n H M)
   |(go_at_call 107;(with_reducible refine(ud t).mono ?_);rintro e T ⟨rfl,l,k⟩;obtain⟨-,-,-,a5,a6⟩:=l.cells;have a7:=zH l.head 12;have t0:=(zF (i:=0) k.kept (ud f _ (ud a)) s).trans v0;have t1:=(zF (i:=1) k.kept (ud f _ (ud a)) s).trans v1;have lT:=J s k.size;have a4:=l.lt;have F:=zd (Q9 ((ud o).later (ud a)) k (zM (ud G) (ud a)));have HM:=zd l;have HK:=zd (((ud D).trans (Kx.below (ud a) (ud o).dlt)).trans k);clear l k)
   |(go_at_call 107;(with_reducible refine(ud u).mono ?_);rintro e T ⟨rfl,l,k⟩;obtain⟨-,-,-,a5,a6⟩:=l.cells;have a7:=zH l.head 12;have t0:=(zF (i:=0) k.kept (ud f _ (ud a).drew) s).trans v0;have t1:=(zF (i:=1) k.kept (ud f _ (ud a).drew) s).trans v1;have lT:=J s k.size;have a4:=l.lt;have F:=zd (Q9 ((ud o).later (ud a).drew) k (zM (ud G) (ud a).drew));have HM:=zd l;have HK:=zd (((ud D).trans (Kx.below (ud a).drew (ud o).dlt)).trans k);clear l k))
  all_goals go_wp2_with fail
  all_goals(
   refine(ud (ac T (ud HM) (ud F))).mono ?_
   rintro e U ⟨rfl,y,ag⟩
   obtain⟨-,-,-,aC,-⟩:=y.cells
   have lu:=y.lt
   have ao:=a9 U y
   have aa:=zd y
   have an:=zd ((ud HK).trans ag)
   clear y ag ac a9
   go_wp2_with fail
   refine(ud ao).mono ?_
   rintro e Z ⟨rfl,a2⟩
   have ab:=zd ((ud aa).later a2)
   have a8:=zd ((ud an).trans (Kx.below a2 (ud aa).dlt))
   clear a2
   cases ai:KN (JI q.S (xT now xs)) q.st
   ·go_wp2_with fail
    go_ret
    exact⟨.inr ⟨trivial,rfl,.inl ⟨ai,ud ab⟩⟩,ud a8⟩
   ·go_wp2_with fail
    refine(ud (ar Z (ud ab))).mono ?_
    rintro e R ⟨ys,hp,rfl,ah,af⟩
    have aq:=zd hp
    have ap:=zd ah
    have am:=zd ((ud a8).trans af)
    clear hp ah af
    go_wp2_with fail
    go_ret
    exact⟨.inr ⟨trivial,rfl,.inr ⟨ai,ys,ud aq,ud ap⟩⟩,ud am⟩)
end Go.Proofs.YtndhpgciopcncaaGreatDoor
