import Derived.Test.YtndhpgciopcncaaGreatDoorYRef4
import Derived.Test.YtndhpgciopcncaaGreatDoorYConf4
import Derived.Test.YtndhpgciopcncaaGreatDoorYFits0
open Go.Value renaming int → I
open Go.IntKind renaming i64 → J
open Option renaming none → O
open Option renaming some → E
open Go renaming World → U
open Go.RowKit renaming Below → Y
open Nat renaming le_refl → Z
open Nat renaming lt_of_lt_of_le → N
open Go renaming Value → S
open Go.RowKit.Below renaming refl → D
open Go.IntKind (i32)
set_option linter.unusedVariables false
set_option maxRecDepth 8000
set_option maxHeartbeats 4000000
open Go.Proofs.Tryz
namespace Go.Proofs.YtndhpgciopcncaaGreatDoor
open Go.RowKit
theorem Tryz.infoSegment:(prog.info? 287).map (fun i=>(i.zero,i.size,i.bytes))=E (E (.agg #[I J 0,I J 0,I J 0]),3,24):=by kernel_rfl
theorem KG{α:Type}{f:α->List S}{w:U}{base:Nat}{e:TypeId}{k:Nat}{v:S}{l:List α}{a:α}(h:w.ownsRow base e k v (l.length+1) (l.flatMap f++f a)):w.ownsRow base e k v (l++[a]).length ((l++[a]).flatMap f):=by
 rw[VF,List.length_append];exact h
theorem ziO{w:U}{ops:Array Oper}{rest:List Oper}{o:Oper}{a:Act}{Q:Exit->Act->U->Prop}(e:o.guard=O)(s x:Operand)
  (q:o.op=.call {callee:=.builtin .append,args:=#[s,x],argTypes:=#[225,225]}) (base:Nat) (v:S) (l:List Sg) (f:Sg) (r:a.eval s=v) (b:w.ownsRow base 287 3 v l.length (l.flatMap sgV))
  (c:Nat) (y:a.eval x=.slice (E ⟨c,0,O⟩) 1 1) (d:w.1[c]?=E (.cells #[I J f.t,I J f.se,I J f.wn] 287 (0,0))) (z:l.length<=1099511627776) (hbase:base<=w.1.size)
  (h:∀g cap w',w'.ownsRow base 287 3 (.slice (E ⟨g,0,O⟩) (l.length+1) cap) (l++[f]).length ((l++[f]).flatMap sgV)->w'.ownsRow base 287 3 v l.length (l.flatMap sgV)->w.grownBy w' v.ownBlock->(v.ownBlock=E g\/g=w.1.size)->g<w'.1.size->wpList prog ops Q rest (a.put o.dst (.slice (E ⟨g,0,O⟩) (l.length+1) cap)) w'):wpList prog ops Q (o::rest) a w:=
 zJ e s x 225 q base 287 _ 3 24 underlying225 Tryz.infoSegment rfl (by decide) v l.length (l.flatMap sgV) r b ⟨c,0,O⟩ 1 1 [I J f.t,I J f.se,I J f.wn] y rfl
  (World.news_of_block (cs:=#[I J f.t,I J f.se,I J f.wn]) d) (by intro u i;simp at i;rcases i with rfl|rfl|rfl<;>rfl) (by decide) (by simp only[maxLen];omega) (by omega) hbase
  fun g cap w' j k m n p=>h g cap w' (KG j) k m n p
theorem zfZ{l:List Sg}{s:Sg}(h:s∈l):jX l s=l:=by simp[jX,h]
theorem zdM{l:List Sg}{s:Sg}(h:¬s∈l):jX l s=l++[s]:=by simp[jX,h]
theorem Ve(c:Cf)(t:Int)(nu:List Nm)(l:List Sg):xA c t (nu.take 0) l=l:=by simp[xA]
theorem kb(s:Sg)(l:List Sg):(vv s l=true/\s∈l)\/(vv s l=false/\¬s∈l):=by
 by_cases h:s∈l
 ·exact .inl ⟨kz h,h⟩
 ·exact .inr ⟨Xh h,h⟩
theorem kQ{B:Nat}{w:U}{p:Nat}{m:RM}{tv nv pv gv kv:S}(h:zQ B w p m tv nv pv gv kv)(hc:m.c.ok)(a8:m.nu.length<=1000000000)(a9:∀x∈m.nu,x.ok):
  Calls prog 221 #[.pointer (E ⟨p,0,O⟩)] w fun e w'=>∃v,e=.returned v/\w'.ownsRow w.1.size 287 3 v (zE m.c m.nu).length ((zE m.c m.nu).flatMap sgV)/\Y w.1.size w w':=by
 have H:=zd h
 obtain⟨an,cn,aa⟩:=zm h.nrow
 subst aa
 obtain⟨at_,ct,ac⟩:=zm h.trow
 subst ac
 have ax:=hc.n4
 have ay:=h.lt
 clear h
 go_enter func221,ntmps221
 go_wp2_with fail
 go_loopw [3,4,5,6,7] (fun v y _ _ _ wr=>∃(k:Nat),k<=m.c.n+1/\y=I J ((k:Int)-1)/\wr.ownsRow w.1.size 287 3 v (ye m.c m.nu k).length ((ye m.c m.nu k).flatMap sgV)/\Y w.1.size w wr) (fun _ y _ _ _ _=>m.c.n+1-(intOf y+1).toNat)
 case atStart=>exact⟨0,Nat.zero_le _,rfl,World.ownsRow_nil _ _ _ _,D _ _⟩
 case round=>
  obtain⟨k,hk,rfl,hv,z⟩:=hrel
  have j:=(ud H).later z
  have V:=j.lt
  obtain⟨c0,c1,c2,c3,c4,c5,c6⟩:=j.conf
  clear c0 c1 c2 c3 c4 c5
  by_cases aw:k<m.c.n+1
  ·have a7:(k:Int)-1<m.c.n:=by omega
   have a5: -1<=(k:Int)-1:=by omega
   obtain⟨a0,ak,ad⟩:=zm hv
   have K:=zd hv
   have u:=zd z
   clear j hv z
   subst ad
   go_wp2_with fail
   go_loopw [3,5,6,7] (fun v y _ _ wq=>∃(i:Nat),i<=m.nu.length/\y=I J i/\wq.ownsRow w.1.size 287 3 v (xA m.c ((k:Int)-1) (m.nu.take i) (ye m.c m.nu k)).length ((xA m.c ((k:Int)-1) (m.nu.take i) (ye m.c m.nu k)).flatMap sgV)/\Y w.1.size w wq) (fun _ y _ _ _=>m.nu.length-(intOf y).toNat)
   case atStart=>exact⟨0,Nat.zero_le _,rfl,by rw[Ve];exact ud K,ud u⟩
   case round=>
    clear K u c6 V
    obtain⟨i,hi,rfl,hv,z⟩:=hrel
    have j:=(ud H).later z
    have V:=j.lt
    obtain⟨r7,r8,r9,af,ag,ah,ai⟩:=j.rest
    clear r7 r9 af ag ah ai
    obtain⟨a1,P,C⟩:=zm hv
    have K:=zd hv
    have u:=zd z
    have ap:=zd j
    by_cases a4:i<m.nu.length
    ·obtain⟨x,hx⟩:=xz a4
     have W:=a9 x (List.mem_of_getElem? hx)
     obtain⟨g,aj,ae,_,au,x0,x1,x2⟩:=zka j.nrow hx
     cases ae
     have s:=Vd m.c ((k:Int)-1) m.nu (ye m.c m.nu k) i x hx
     have aq:(xA m.c ((k:Int)-1) (m.nu.take i) (ye m.c m.nu k)).length<=6000000000:=by
      have h1:=jg m.c ((k:Int)-1) (m.nu.take i) (ye m.c m.nu k)
      have h2:=Xm m.c m.nu k
      have h3:k*m.nu.length<=5*1000000000:=Nat.mul_le_mul (by omega) a8
      rw[List.length_take]at h1
      omega
     have av:(i:Int)<m.nu.length:=by omega
     have M:=zd (Za j hc ((k:Int)-1) a5 a7 x W)
     have l:=zd s
     subst C
     generalize xA m.c ((k:Int)-1) (m.nu.take i) (ye m.c m.nu k)=L at*
     clear hx s W j hv z
     go_wp2_with fail
     refine(ud M).mono ?_
     rintro e w1 ⟨rfl,Q⟩
     generalize zt m.c ((k:Int)-1) x=d at*
     have b:∀o,Y wr.1.size wr (w1.alloc o):=fun o=>Q.alloc Q.size _
     have A:=zd (xH w.1.size L _ d _ (by omega) (zM (ud K) (b (.cells #[I J d.t,I J d.se,I J d.wn] 287))))
     rcases kb d L with⟨R,r⟩|⟨R,r⟩
     ·rw[R]at A
      have F:=zd (zfZ r)
      clear R r
      go_wp2_with fail
      refine(ud A).mono ?_
      rintro e w2 ⟨rfl,f⟩
      have X:=zd ((ud u).trans (((b (.cells #[I J d.t,I J d.se,I J d.wn] 287)).trans (f.mono (b _).size)).mono (ud u).size))
      have FV:=zd (zM (ud K) ((b (.cells #[I J d.t,I J d.se,I J d.wn] 287)).trans (f.mono (b _).size)))
      go_wp2_with fail
      go_roundw
      case rel=>exact⟨i+1,by omega,by go_num,by rw[ud l,ud F];exact ud FV,ud X⟩
      case measure=>simp[intOf];omega
     ·rw[R]at A
      have F:=zd (zdM r)
      clear R r
      go_wp2_with fail
      refine(ud A).mono ?_
      rintro e w2 ⟨rfl,f⟩
      have X:=zd ((ud u).trans (((b (.cells #[I J d.t,I J d.se,I J d.wn] 287)).trans (f.mono (b _).size)).mono (ud u).size))
      have FV:=zd (zM (ud K) ((b (.cells #[I J d.t,I J d.se,I J d.wn] 287)).trans (f.mono (b _).size)))
      have q:=(f.block w1.1.size (by rw[zG];omega)).trans (zr _ _)
      obtain⟨z0,z1,z2,-⟩:=zc q
      have ab:w.1.size<=w2.1.size:=(ud X).size
      clear q
      go_wp2_with(first
       |(at_builtin;refine ziO rfl _ _ rfl w.1.size _ L d rfl ((ud FV).alloc _) w2.1.size rfl (zr _ _) ?hll ?hbb ?_;(case hll=>omega);(case hbb=>(rw[zG];omega));intro g2 al w3 T ao G ar am)
       |fail)
      have a2:Y w.1.size w w3:=((ud X).alloc ab _).grown G (by simp;omega) (fun k hk=>((ud FV).lt k hk).1)
      exact⟨⟨i+1,by omega,by go_num,by rw[ud l,ud F];exact T,a2⟩,by simp[intOf];omega⟩
    ·have a3:i=m.nu.length:=by omega
     have a:=hv
     rw[a3,List.take_length,<-vx]at a
     have a:=zd a
     subst C
     clear hv z j
     go_wp2_with fail
     go_roundw
     case rel=>exact⟨k+1,by omega,by go_num,ud a,ud u⟩
     case measure=>simp[intOf];omega
  ·have a6:k=m.c.n+1:=by omega
   have a:=hv
   rw[a6]at a
   have a:=zd a
   have u:=zd z
   obtain⟨a1,P,C⟩:=zm hv
   subst C
   clear hv z j
   go_wp2_with fail
   go_ret
   exact⟨_,rfl,ud a,ud u⟩
theorem Tryz.infoTier:(prog.info? 80).map (fun i=>(i.zero,i.size,i.bytes))=E (E (.agg #[I J 0,I J 0,I J 0]),3,24):=by kernel_rfl
def yx(n:Nat):Array S:=madeCells #[I J 0,I J 0,I J 0] ((n+1)*3)
theorem vA(n:Nat):(yx n).size=(n+1)*3:=size_madeCells _ _
theorem zcA(n:Nat)(j:24*(n+1)<=281474976710656)(a:U):
  (Instr.makeSlice 25 (I J ((n:Int)+1)) (I J ((n:Int)+1))).run prog a=.ok (.slice (E ⟨a.1.size,0,O⟩) (n+1) (n+1)) (a.alloc (.cells (yx n) 80)):=by
 have c:=Tryz.infoTier
 cases d:prog.info? 80 with
 |none=>simp[d]at c
 |some i=>
  simp only[d,Option.map_some,Option.some.injEq,Prod.mk.injEq]at c
  obtain⟨h,g,b⟩:=c
  have f:=run_make (P:=prog) a 25 80 i _ underlying25 d h .i64 .i64 ((n:Int)+1) ((n:Int)+1) (by omega) (by omega) (by rw[b];omega) (by omega)
  rw[f,g]
  have e:((n:Int)+1).toNat=n+1:=by omega
  rw[e];rfl
theorem Zq{w:U}{g:Nat}{cs:Array S}{t:TypeId}{a:Nat×Nat}(h:w.1[g]?=E (.cells cs t a))(i:Nat):w.cell? ⟨g,i,O⟩=cs[i]?:=by simp[World.cell?,h]
theorem vr{w:U}{g:Nat}{cs:Array S}{t:TypeId}(h:w.1[g]?=E (.cells cs t (0,0)))(i:Nat):w.frozen? ⟨g,i,O⟩=false:=by simp[World.frozen?,h]
theorem TS.cells{w:U}{a:Option Addr}{n:Nat}{F W K:Nat->Int}(h:TS w a n F W K):0<(ZM n F W K).length->∃ad,a=E ad/\∀j v,(ZM n F W K)[j]?=E v->w.cell? (ad.add j)=E v:=by
 intro l
 rw[zW]at l
 obtain⟨b,f,rfl,_,m⟩:=h (by omega)
 refine⟨_,rfl,fun j v hv=>?_⟩
 have o:j<n*3:=by
  have:=(List.getElem?_eq_some_iff.1 hv).1;rwa[zW]at this
 rw[Q8 n F W K j o]at hv
 cases hv
 have d:(⟨b,f,O⟩:Addr).add j=⟨b,f+j,O⟩:=by unfold Addr.add;split<;>simp_all
 rw[d]
 obtain⟨g,i,k⟩:=m (j/3) (by omega)
 rcases(show j%3=0\/j%3=1\/j%3=2 by omega)with e|e|e
 ·have c:j=j/3*3:=by omega
  rw[c,JV];exact g
 ·have c:j=j/3*3+1:=by omega
  rw[c,JW];exact i
 ·have c:j=j/3*3+2:=by omega
  rw[c,JX];exact k
theorem TS.of_row{w:U}{g n:Nat}{F W K:Nat->Int}{r:List S}{t:TypeId}{d:Nat×Nat}(b:w.1[g]?=E (.cells (ZM n F W K++r).toArray t d)):TS w (E ⟨g,0,O⟩) n F W K:=fun _=>by
 have a:g<w.1.size:=(Array.getElem?_eq_some_iff.1 b).1
 refine⟨g,0,rfl,a,fun i f=>?_⟩
 have e:∀j,j<n*3->w.cell? ⟨g,j,O⟩=E (Zo F W K j):=fun j c=>by
  simp only[World.cell?,b]
  simp[List.getElem?_append_left (show j<(ZM n F W K).length by rw[zW];exact c),Q8 n F W K j c]
 simp only[Nat.zero_add]
 refine⟨?_,?_,?_⟩
 ·rw[e _ (by omega),JV]
 ·rw[e _ (by omega),JW]
 ·rw[e _ (by omega),JX]
theorem TS.setCell{w:U}{g a n:Nat}{F W K:Nat->Int}(h:TS w (E ⟨g,a,O⟩) n F W K)(o:Nat)(v:S)(q:a+n*3<=o):TS (w.setCell ⟨g,o,O⟩ v) (E ⟨g,a,O⟩) n F W K:=fun l=>by
 obtain⟨b,j,e,f,m⟩:=h l
 cases e
 refine⟨g,a,rfl,by simpa[World.setCell]using f,fun i p=>?_⟩
 have c:∀d,d<o->(w.setCell ⟨g,o,O⟩ v).cell? ⟨g,d,O⟩=w.cell? ⟨g,d,O⟩:=fun d k=>World.cell?_setCell_other _ _ _ _ (by intro e;cases e;exact absurd k (Nat.lt_irrefl _))
 rw[c _ (by omega),c _ (by omega),c _ (by omega)]
 exact m i p
theorem vm{c:Cf}{nu:List Nm}(d:c.n<=4)(h:nu.length<=1000000000):(zE c nu).length<=5000000000:=by
 have a:=Xm c nu (c.n+1)
 have b:(c.n+1)*nu.length<=5*1000000000:=Nat.mul_le_mul (by omega) h
 unfold zE;omega
theorem Xo{c:Cf}{nu:List Nm}{rc l:List Sg}(d:l.length<=5000000000)(hn:nu.length<=1000000000)(h:∀x∈nu,x.ok):0<=kG c nu rc l/\kG c nu rc l<=6000000000000000000:=by
 have a:=Jy (c:=c) (nu:=nu) (rc:=rc) (l:=l) h
 have b:(l.length:Int)*(nu.length+2)<=5000000000*1000000002:=Int.mul_le_mul (by omega) (by omega) (by omega) (by omega)
 omega
theorem zhz{c:Cf}{nu:List Nm}{rc:List Sg}{s:Sg}(h:s∈rc):ji c nu rc s=0:=by simp[ji,h]
theorem zjo{c:Cf}{nu:List Nm}{rc:List Sg}{s:Sg}(h:¬s∈rc)(a:s.t= -1):ji c nu rc s=(xe c s nu).cnt:=by simp[ji,h,a]
theorem zhA{c:Cf}{nu:List Nm}{rc:List Sg}{s:Sg}(h:¬s∈rc)(a:¬s.t= -1):ji c nu rc s=2:=by simp[ji,h,a]
theorem zfn{c:Cf}{nu:List Nm}{s:Sg}(h:s∈zE c nu): -1<=s.t/\s.t<c.n:=by
 have:=yv.1 h;exact⟨this.1,this.2.1⟩
theorem Vm{B:Nat}{w:U}{p:Nat}{m:RM}{tv nv pv gv kv:S}(h:zQ B w p m tv nv pv gv kv)(hc:m.c.ok)(F:m.nu.length<=1000000000)(av:m.gone.length<=1000000000000)(G:∀x∈m.nu,x.ok):
  Calls prog 219 #[.pointer (E ⟨p,0,O⟩)] w fun e w'=>e=.returned (I J m.used)/\Y w.1.size w w':=by
 have H:=zd h
 have HS:=zd (kQ h hc F G)
 have ay:=vm (nu:=m.nu) hc.n4 F
 have HU:Hid (m.used=kG m.c m.nu m.gone (zE m.c m.nu)):=rfl
 have HM:=zd (fun s hs=>zfn (c:=m.c) (nu:=m.nu) (s:=s) hs)
 obtain⟨ag,cg,ac⟩:=zm h.grow
 subst ac
 clear h
 generalize zE m.c m.nu=L at*
 go_enter func219,ntmps219
 go_wp2_with fail
 refine(ud HS).mono ?_
 rintro e w0 ⟨v,rfl,T,a2⟩
 obtain⟨al,cl,ai⟩:=zm T
 subst ai
 have a9:=zd T
 have a0:=zd a2
 clear T a2
 go_wp2_with fail
 go_loopw [3,5,6,7] (fun z y _ _ wr=>∃(i:Nat),i<=L.length/\y=I J i/\z=I J (kG m.c m.nu m.gone (L.take i))/\Y w0.1.size w0 wr) (fun _ y _ _ _=>L.length-(intOf y).toNat)
 case atStart=>exact⟨0,Nat.zero_le _,rfl,by simp[kG],D _ _⟩
 case round=>
  obtain⟨i,hi,rfl,rfl,hb⟩:=hrel
  have P:Y w.1.size w wr:=(ud a0).trans (hb.mono (ud a0).size)
  have hr:=(ud H).later P
  have ax:=hr.lt
  obtain⟨r7,r8,r9,az,ak,am,an⟩:=hr.rest
  clear r7 r8 r9 ak am an
  have X:=zd hb
  have a8:=zd P
  have a1:=zd hr
  have HV:=zd (zM (ud a9) hb)
  clear hr P hb
  by_cases ae:i<L.length
  ·obtain⟨s,hs⟩:=xz ae
   obtain⟨g,ao,aj,_,d,W,x1,x2⟩:=zaF (ud HV) hs
   injection aj with a5 a6 a7
   subst a5
   have C:=zaU m.c m.nu m.gone L i s hs
   obtain⟨a3,a4⟩:=ud HM s (List.mem_of_getElem? hs)
   have aw:(i:Int)<L.length:=by omega
   have ah:=Xo (c:=m.c) (rc:=m.gone) (l:=L.take i) (by rw[List.length_take];omega) F G
   have aa:=yB (c:=m.c) (s:=s) (nu:=m.nu) G
   obtain⟨ar,au⟩:=ah
   obtain⟨ap,aq,-⟩:=aa
   have k:=zd C
   clear hs C a6 a7
   generalize kG m.c m.nu m.gone (L.take i)=u at*
   have R:Nonempty (zj wr.1.size wr):=zj.some _ _
   have Q:=fun(u:zj wr.1.size wr) b o h=>u.cell b o h
   have r:=zd (fun(u:zj wr.1.size wr)=>xH B m.gone _ s u.1 (by omega) ((ud a1).later u.2).grow)
   have M:=zd (fun(V:U) (a:Y wr.1.size wr V)=>zbb ((ud a1).later a) hc F G s a3 a4)
   rcases kb s m.gone with⟨hm,n⟩|⟨hm,n⟩
   ·rw[hm]at r
    have q:=zd (zhz (c:=m.c) (nu:=m.nu) n)
    clear hm n
    go_wp2_with fail
    refine ze wr.1.size (by kernel_rfl) (by kernel_rfl) ?_
    repeat(go_big_quiet_step (first|(go_at_call 218;exact Calls.later (Z _) (ud r _))))
    refine wpQuiet_nil ?_
    rintro⟨V,a⟩
    clear Q R
    have z0:=(a.cell (p:=⟨g,i*3,O⟩) d).trans W
    have z1:=(a.cell (p:=⟨g,i*3+1,O⟩) d).trans x1
    have z2:=(a.cell (p:=⟨g,i*3+2,O⟩) d).trans x2
    dsimp only
    go_wp2_with fail
    refine(ud M V a).mono ?_
    rintro e w2 ⟨rfl,j⟩
    have K:=zd ((ud X).trans ((a.trans (j.mono a.size)).mono (ud X).size))
    go_wp2_with fail
    go_roundw
    case rel=>exact⟨i+1,by omega,by go_num,by rw[ud k,ud q];simp,(ud K).alloc (ud K).size _⟩
    case measure=>simp[intOf];omega
   ·rw[hm]at r
    by_cases f:s.t= -1
    ·have q:=zd (zjo (c:=m.c) (nu:=m.nu) n f)
     have af:(s.t== -1)=true:=by simp[f]
     clear hm n f
     go_wp2_with fail
     refine ze wr.1.size (by kernel_rfl) (by kernel_rfl) ?_
     repeat(go_big_quiet_step (first|(go_at_call 218;exact Calls.later (Z _) (ud r _))))
     refine wpQuiet_nil ?_
     rintro⟨V,a⟩
     clear Q R
     have z0:=(a.cell (p:=⟨g,i*3,O⟩) d).trans W
     have z1:=(a.cell (p:=⟨g,i*3+1,O⟩) d).trans x1
     have z2:=(a.cell (p:=⟨g,i*3+2,O⟩) d).trans x2
     dsimp only
     go_wp2_with fail
     refine(ud M V a).mono ?_
     rintro e w2 ⟨rfl,j⟩
     have K:=zd ((ud X).trans ((a.trans (j.mono a.size)).mono (ud X).size))
     have y0:=((a.trans (j.mono a.size)).cell (p:=⟨g,i*3,O⟩) d).trans W
     have ab:g<w2.1.size:=N d (a.trans (j.mono a.size)).size
     clear z0 z1 z2 W x1 x2
     generalize xe m.c s m.nu=A at*
     go_wp2_with fail
     go_roundw
     case rel=>exact⟨i+1,by omega,by go_num,by rw[ud k,ud q],(ud K).alloc (ud K).size _⟩
     case measure=>simp[intOf];omega
    ·have q:=zd (zhA (c:=m.c) (nu:=m.nu) n f)
     have af:(s.t== -1)=false:=by simp[f]
     clear hm n f
     go_wp2_with fail
     refine ze wr.1.size (by kernel_rfl) (by kernel_rfl) ?_
     repeat(go_big_quiet_step (first|(go_at_call 218;exact Calls.later (Z _) (ud r _))))
     refine wpQuiet_nil ?_
     rintro⟨V,a⟩
     clear Q R
     have z0:=(a.cell (p:=⟨g,i*3,O⟩) d).trans W
     have z1:=(a.cell (p:=⟨g,i*3+1,O⟩) d).trans x1
     have z2:=(a.cell (p:=⟨g,i*3+2,O⟩) d).trans x2
     dsimp only
     go_wp2_with fail
     refine(ud M V a).mono ?_
     rintro e w2 ⟨rfl,j⟩
     have K:=zd ((ud X).trans ((a.trans (j.mono a.size)).mono (ud X).size))
     have y0:=((a.trans (j.mono a.size)).cell (p:=⟨g,i*3,O⟩) d).trans W
     have ab:g<w2.1.size:=N d (a.trans (j.mono a.size)).size
     clear z0 z1 z2 W x1 x2
     generalize xe m.c s m.nu=A at*
     go_wp2_with fail
     go_roundw
     case rel=>exact⟨i+1,by omega,by go_num,by rw[ud k,ud q],(ud K).alloc (ud K).size _⟩
     case measure=>simp[intOf];omega
  ·have ad:i=L.length:=by omega
   have hU:=ud HU
   have hx:kG m.c m.nu m.gone (L.take i)=m.used:=by rw[ad,List.take_length,hU]
   rw[hx]
   go_wp2_with fail
   go_ret
   exact⟨rfl,ud a8⟩
def RM.tight(m:RM):Bool:=decide (3*m.c.qu<4*m.used)
theorem zfK{B:Nat}{w:U}{p:Nat}{m:RM}{tv nv pv gv kv:S}(h:zQ B w p m tv nv pv gv kv)(d:m.c.ok)(s:m.nu.length<=100000000)(f:m.gone.length<=1000000000000)(b:∀x∈m.nu,x.ok)(A:m.used<=1000000000000000000):
  Calls prog 220 #[.pointer (E ⟨p,0,O⟩)] w fun e w'=>e=.returned (.bool m.tight)/\Y w.1.size w w':=by
 have i:=zd (Vm h d (by omega) f b)
 have v:0<=m.used:=(Xo (c:=m.c) (rc:=m.gone) (vm d.n4 (by omega)) (by omega) b).1
 have t:=h.lt
 obtain⟨j,k,l,n,o,q,r⟩:=h.conf
 have z:=d.qu
 have g:Hid (m.tight=decide (3*m.c.qu<4*m.used)):=rfl
 clear h j k l n o r
 go_enter func220,ntmps220
 go_wp2_with fail
 refine(ud i).mono ?_
 rintro e C ⟨rfl,a⟩
 have y:=(a.cell (p:=⟨p,5,O⟩) t).trans q
 generalize m.used=u at*
 go_wp2_with fail
 go_ret
 exact⟨zy (by rw[ud g]),a⟩
theorem zkG{w:U}{wb:Nat}(o:Ops)(R:U->Prop)
  (g:∀h,Y w.1.size w h->Calls prog 33 #[.pointer (E ⟨wb,0,O⟩),.agg #[I J o.fs,I J o.fe,I J o.fb,I J o.fw,I J o.fk,I J o.fq,.slice o.fa o.fn o.fc],I J (-1)] h fun e w'=>e=.returned (.bool true)/\R w'):
  Calls prog 34 #[.pointer (E ⟨wb,0,O⟩),.agg #[I J 1,I J o.on,I J (-1),I J o.b,I J o.c,I i32 o.v,I J o.te,I J o.tn,I J o.fs,I J o.fe,I J o.fb,I J o.fw,I J o.fk,I J o.fq,.slice o.fa o.fn o.fc]] w fun e w'=>e=.returned (.bool true)/\R w':=by
 have a:Y w.1.size w (w.alloc (.cells #[I J 1,I J o.on,I J (-1),I J o.b,I J o.c,I i32 o.v,I J o.te,I J o.tn,I J o.fs,I J o.fe,I J o.fb,I J o.fw,I J o.fk,I J o.fq,.slice o.fa o.fn o.fc] 82)):=(D _ _).alloc (Z _) _
 have d:=zr w (.cells #[I J 1,I J o.on,I J (-1),I J o.b,I J o.c,I i32 o.v,I J o.te,I J o.tn,I J o.fs,I J o.fe,I J o.fb,I J o.fw,I J o.fk,I J o.fq,.slice o.fa o.fn o.fc] 82)
 have f:=zd (g _ a)
 obtain⟨a0,-,p,-,-,-,-,-,q,a9,i,j,k,l,m,-⟩:=zc d
 clear d a g
 go_enter func34,ntmps34
 go_wp2_with fail
 generalize(w.alloc (.cells #[I J 1,I J o.on,I J (-1),I J o.b,I J o.c,I i32 o.v,I J o.te,I J o.tn,I J o.fs,I J o.fe,I J o.fb,I J o.fw,I J o.fk,I J o.fq,.slice o.fa o.fn o.fc] 82))=X at*
 go_wp2_with(first|(go_at_call 33;refine(ud f).mono ?_;rintro e w' ⟨rfl,n⟩)|fail)
 go_ret
 exact⟨rfl,n⟩
structure Sc where
 held:Int
 wait:Int
 pub:Int
 gone:Int
def kE(m:RM)(a:Sc)(s:Sg):Sc:=
 if s∈m.gone then⟨a.held,a.wait,a.pub,a.gone+1⟩else if s.t= -1 then⟨a.held+1,a.wait,a.pub,a.gone⟩else if s∈m.pub then⟨a.held,a.wait,a.pub+1,a.gone⟩else⟨a.held,a.wait+1,a.pub,a.gone⟩
def zbP(m:RM)(l:List Sg):Sc:=l.foldl (kE m) ⟨0,0,0,0⟩
theorem zfj(m:RM)(l:List Sg)(i:Nat)(s:Sg)(h:l[i]?=E s):zbP m (l.take (i+1))=kE m (zbP m (l.take i)) s:=by
 obtain⟨a,b⟩:=List.getElem?_eq_some_iff.1 h
 rw[List.take_succ_eq_append_getElem a,b];simp[zbP]
theorem zaH{m:RM}{a:Sc}{s:Sg}(h:s∈m.gone):kE m a s=⟨a.held,a.wait,a.pub,a.gone+1⟩:=by simp[kE,h]
theorem zaI{m:RM}{a:Sc}{s:Sg}(h:¬s∈m.gone)(b:s.t= -1):kE m a s=⟨a.held+1,a.wait,a.pub,a.gone⟩:=by simp[kE,h,b]
theorem zdq{m:RM}{a:Sc}{s:Sg}(h:¬s∈m.gone)(b:¬s.t= -1)(c:s∈m.pub):kE m a s=⟨a.held,a.wait,a.pub+1,a.gone⟩:=by simp[kE,h,b,c]
theorem zaJ{m:RM}{a:Sc}{s:Sg}(h:¬s∈m.gone)(b:¬s.t= -1)(c:¬s∈m.pub):kE m a s=⟨a.held,a.wait+1,a.pub,a.gone⟩:=by simp[kE,h,b,c]
def Sc.ok(a:Sc)(n:Int):Prop:=0<=a.held/\a.held<=n/\0<=a.wait/\a.wait<=n/\0<=a.pub/\a.pub<=n/\0<=a.gone/\a.gone<=n
theorem Y9(m:RM):∀(l:List Sg) (a:Sc) (n:Nat),a.ok n->(l.foldl (kE m) a).ok (n+l.length)
 |[],a,n,h=>by simpa using h
 |s::r,a,n,h=>by
  have:=Y9 m r (kE m a s) (n+1) (by
   unfold Sc.ok at h ⊢
   unfold kE
   split
   ·dsimp only;omega
   ·split
    ·dsimp only;omega
    ·split
     ·dsimp only;omega
     ·dsimp only;omega)
  rw[List.foldl_cons,List.length_cons]
  unfold Sc.ok at this ⊢
  omega
theorem zdo(m:RM)(l:List Sg):(zbP m l).ok l.length:=by
 have:=Y9 m l ⟨0,0,0,0⟩ 0 (by simp[Sc.ok])
 simpa[zbP]using this
def RM.tightI(m:RM):Int:=if m.tight then 1 else 0
theorem zaS{m:RM}(h:m.tight=true):m.tightI=1:=by simp[RM.tightI,h]
theorem Ju{m:RM}(h:m.tight=false):m.tightI=0:=by simp[RM.tightI,h]
def kK(now used a ep:Int)(A:Sc):Obj:=.cells #[I J now,I J used,I J a,I J ep,I J A.held,I J A.wait,I J A.pub,I J A.gone] 37 (0,0)
theorem zbU{w:U}{g:Nat}{now used a ep:Int}{A:Sc}(h:w.1[g]?=E (kK now used a ep A)):
  w.cell? ⟨g,0,O⟩=E (I J now)/\w.cell? ⟨g,1,O⟩=E (I J used)/\w.cell? ⟨g,2,O⟩=E (I J a)/\w.cell? ⟨g,3,O⟩=E (I J ep)/\w.cell? ⟨g,4,O⟩=E (I J A.held)/\w.cell? ⟨g,5,O⟩=E (I J A.wait)/\w.cell? ⟨g,6,O⟩=E (I J A.pub)/\w.cell? ⟨g,7,O⟩=E (I J A.gone)/\∀j,w.frozen? ⟨g,j,O⟩=false:=by
 refine⟨?_,?_,?_,?_,?_,?_,?_,?_,fun j=>zH h j⟩<;>rw[xd h]<;>rfl
theorem st_4{w:U}{g:Nat}{now used a ep:Int}{A:Sc}(h:w.1[g]?=E (kK now used a ep A))(v:Int):(w.setCell ⟨g,4,O⟩ (I J v)).1[g]?=E (kK now used a ep ⟨v,A.wait,A.pub,A.gone⟩):=xi (i:=4) h (I J v)
theorem st_5{w:U}{g:Nat}{now used a ep:Int}{A:Sc}(h:w.1[g]?=E (kK now used a ep A))(v:Int):(w.setCell ⟨g,5,O⟩ (I J v)).1[g]?=E (kK now used a ep ⟨A.held,v,A.pub,A.gone⟩):=xi (i:=5) h (I J v)
theorem st_6{w:U}{g:Nat}{now used a ep:Int}{A:Sc}(h:w.1[g]?=E (kK now used a ep A))(v:Int):(w.setCell ⟨g,6,O⟩ (I J v)).1[g]?=E (kK now used a ep ⟨A.held,A.wait,v,A.gone⟩):=xi (i:=6) h (I J v)
theorem st_7{w:U}{g:Nat}{now used a ep:Int}{A:Sc}(h:w.1[g]?=E (kK now used a ep A))(v:Int):(w.setCell ⟨g,7,O⟩ (I J v)).1[g]?=E (kK now used a ep ⟨A.held,A.wait,A.pub,v⟩):=xi (i:=7) h (I J v)
theorem zq{f:Nat->Prop}{a w:U}{g i:Nat}{v:S}(h:zk f a w)(b:f g):zk f a (w.setCell ⟨g,i,O⟩ v):=h.setCell (p:=⟨g,i,O⟩) (fun _=>b) v
theorem vh{f:Nat->Prop}{a w w':U}(h:zk f a w)(b:Y w.1.size w w'):zk f a w':=h.trans (zk.of_below (f:=f) b) (fun _ _ h=>h)
theorem set8{w:U}{g:Nat}{a b c d e f i j:S}{t:TypeId}{p:Nat×Nat}(h:w.1[g]?=E (.cells #[a,b,c,d,e,f,i,j] t p))(k l m n o q r s:S):((((((((w.setCell ⟨g,0,O⟩ k).setCell ⟨g,1,O⟩ l).setCell ⟨g,2,O⟩ m).setCell ⟨g,3,O⟩ n).setCell ⟨g,4,O⟩ o).setCell ⟨g,5,O⟩ q).setCell ⟨g,6,O⟩ r).setCell ⟨g,7,O⟩ s).1[g]?=E (.cells #[k,l,m,n,o,q,r,s] t p):=by
 have u:(w.setCell ⟨g,0,O⟩ k).1[g]?=E (.cells #[k,b,c,d,e,f,i,j] t p):=xi (i:=0) h k
 have v:((w.setCell ⟨g,0,O⟩ k).setCell ⟨g,1,O⟩ l).1[g]?=E (.cells #[k,l,c,d,e,f,i,j] t p):=xi (i:=1) u l
 have x:(((w.setCell ⟨g,0,O⟩ k).setCell ⟨g,1,O⟩ l).setCell ⟨g,2,O⟩ m).1[g]?=E (.cells #[k,l,m,d,e,f,i,j] t p):=xi (i:=2) v m
 have y:((((w.setCell ⟨g,0,O⟩ k).setCell ⟨g,1,O⟩ l).setCell ⟨g,2,O⟩ m).setCell ⟨g,3,O⟩ n).1[g]?=E (.cells #[k,l,m,n,e,f,i,j] t p):=xi (i:=3) x n
 have z:(((((w.setCell ⟨g,0,O⟩ k).setCell ⟨g,1,O⟩ l).setCell ⟨g,2,O⟩ m).setCell ⟨g,3,O⟩ n).setCell ⟨g,4,O⟩ o).1[g]?=E (.cells #[k,l,m,n,o,f,i,j] t p):=xi (i:=4) y o
 have A:((((((w.setCell ⟨g,0,O⟩ k).setCell ⟨g,1,O⟩ l).setCell ⟨g,2,O⟩ m).setCell ⟨g,3,O⟩ n).setCell ⟨g,4,O⟩ o).setCell ⟨g,5,O⟩ q).1[g]?=E (.cells #[k,l,m,n,o,q,i,j] t p):=xi (i:=5) z q
 have B:(((((((w.setCell ⟨g,0,O⟩ k).setCell ⟨g,1,O⟩ l).setCell ⟨g,2,O⟩ m).setCell ⟨g,3,O⟩ n).setCell ⟨g,4,O⟩ o).setCell ⟨g,5,O⟩ q).setCell ⟨g,6,O⟩ r).1[g]?=E (.cells #[k,l,m,n,o,q,r,j] t p):=xi (i:=6) A r
 have C:((((((((w.setCell ⟨g,0,O⟩ k).setCell ⟨g,1,O⟩ l).setCell ⟨g,2,O⟩ m).setCell ⟨g,3,O⟩ n).setCell ⟨g,4,O⟩ o).setCell ⟨g,5,O⟩ q).setCell ⟨g,6,O⟩ r).setCell ⟨g,7,O⟩ s).1[g]?=E (.cells #[k,l,m,n,o,q,r,s] t p):=xi (i:=7) B s
 exact C
def zkF(w c:U)(m:RM)(L:List Sg)(a:Nat)(u b:Int)(i:Nat)(wr:U):Prop:=
 wr.1[a]?=E (kK m.now u b m.epoch (zbP m (L.take i)))/\zk (fun k=>k=a) c wr
theorem zfs{B:Nat}{w:U}{p:Nat}{m:RM}{tv nv pv gv kv:S}(h:zQ B w p m tv nv pv gv kv)(hc:m.c.ok)(aS:m.nu.length<=100000000)(aC:m.gone.length<=1000000000000)(bg:m.pub.length<=1000000000000)(am:∀x∈m.nu,x.ok)(hu:m.used<=1000000000000000000):
  Calls prog 145 #[.pointer (E ⟨p,0,O⟩)] w fun e w'=>e=.returned (.agg #[I J m.now,I J m.used,I J m.tightI,I J m.epoch,I J (zbP m (zE m.c m.nu)).held,I J (zbP m (zE m.c m.nu)).wait,I J (zbP m (zE m.c m.nu)).pub,I J (zbP m (zE m.c m.nu)).gone])/\Y w.1.size w w':=by
 have H:=zd h
 have b1:=zr w (.cells #[I J 0,I J 0,I J 0,I J 0,I J 0,I J 0,I J 0,I J 0] 37)
 have r:Y w.1.size w (w.alloc (.cells #[I J 0,I J 0,I J 0,I J 0,I J 0,I J 0,I J 0,I J 0] 37)):=(D _ _).alloc (Z _) _
 have bh:=vm (nu:=m.nu) hc.n4 (by omega)
 obtain⟨ag,cg,aO⟩:=zm h.grow
 subst aO
 obtain⟨ap,cp,aT⟩:=zm h.prow
 subst aT
 have hp:=h.lt
 generalize hW:(w.alloc (.cells #[I J 0,I J 0,I J 0,I J 0,I J 0,I J 0,I J 0,I J 0] 37))=W at*
 have ax:W.1.size=w.1.size+1:=by rw[<-hW,zG]
 have HU:=zd (Vm (h.later r) hc (by omega) aC am)
 have HW:=zd hW
 have B1:=zd b1
 have T:=zd ax
 clear h b1 hW ax
 have ba:Hid (∀(v:S),True):=fun _=>trivial
 go_enter func145,ntmps145
 go_wp2_with fail
 rw[ud HW]
 refine(ud HU).mono ?_
 rintro e w1 ⟨rfl,F⟩
 have HT:=zd (zfK ((ud H).later (r.trans (F.mono r.size))) hc aS aC am hu)
 have C:=zd F
 clear F
 cases an:m.tight
 all_goals
  rw[an]at HT
  first|have ae:=zd (Ju an)|have ae:=zd (zaS an)
  go_wp2_with fail
  refine(ud HT).mono ?_
  rintro e f ⟨rfl,M⟩
  have z:Y w.1.size w f:=(r.trans ((ud C).mono r.size)).trans (M.mono (r.trans ((ud C).mono r.size)).size)
  have hr:=(ud H).later z
  obtain⟨r7,r8,r9,b3,b4,b5,b6⟩:=hr.rest
  clear r8 r9 b3 b4 b6
  have aK:=zd hr
  have G:=hr.lt
  clear hr
  go_wp2_with fail
  go_region
  go_wp2_with fail
  first
   |(have af:(f.alloc (kK m.now m.used 0 m.epoch ⟨0,0,0,0⟩)).drew.1[f.1.size]?=E (kK m.now m.used m.tightI m.epoch ⟨0,0,0,0⟩):=by rw[ud ae];exact zr f _
     have V:Y f.1.size f (f.alloc (kK m.now m.used 0 m.epoch ⟨0,0,0,0⟩)).drew:=((D _ _).alloc (Z _) _).drew
     have ay:f.1.size<(f.alloc (kK m.now m.used 0 m.epoch ⟨0,0,0,0⟩)).drew.1.size:=by show _<(f.alloc _).1.size;rw[zG];omega
     change Calls prog _ _ (f.alloc (kK m.now m.used 0 m.epoch ⟨0,0,0,0⟩)).drew _
     generalize(f.alloc (kK m.now m.used 0 m.epoch ⟨0,0,0,0⟩)).drew=X at*)
   |(have af:(f.alloc (kK m.now m.used 1 m.epoch ⟨0,0,0,0⟩)).drew.1[f.1.size]?=E (kK m.now m.used m.tightI m.epoch ⟨0,0,0,0⟩):=by rw[ud ae];exact zr f _
     have V:Y f.1.size f (f.alloc (kK m.now m.used 1 m.epoch ⟨0,0,0,0⟩)).drew:=((D _ _).alloc (Z _) _).drew
     have ay:f.1.size<(f.alloc (kK m.now m.used 1 m.epoch ⟨0,0,0,0⟩)).drew.1.size:=by show _<(f.alloc _).1.size;rw[zG];omega
     change Calls prog _ _ (f.alloc (kK m.now m.used 1 m.epoch ⟨0,0,0,0⟩)).drew _
     generalize(f.alloc (kK m.now m.used 1 m.epoch ⟨0,0,0,0⟩)).drew=X at*)
  generalize hL:zE m.c m.nu=L at*
  have av:=zd (kQ ((ud aK).later V) hc (by omega) am)
  rw[hL]at av
  have aH:=(V.block w.1.size (by have:=z.size;have:=M.size;have:=(ud C).size;have:=ud T;omega)).trans ((M.block w.1.size (by have:=(ud C).size;have:=ud T;omega)).trans (((ud C).block w.1.size (by have:=ud T;omega)).trans (ud B1)))
  have b9:w.1.size<f.1.size:=by have:=M.size;have:=(ud C).size;have:=ud T;omega
  have aN:=zd aH
  have HL:=zd hL
  have aL:=zd af
  clear aH af hL M HU HT r7 b5
  refine(ud av).mono ?_
  rintro e w3 ⟨v,rfl,ao,P⟩
  obtain⟨al,cl,aV⟩:=zm ao
  subst aV
  have aw:=zd ao
  have aI:=zd P
  have aA:Y w.1.size w X:=z.trans (V.mono z.size)
  have ab:Y w.1.size w w3:=aA.trans (P.mono aA.size)
  have bb:=P.size
  have aM:=zd ((P.block w.1.size (by omega)).trans (ud aN))
  clear ao P
  go_wp2_with fail
  go_loopw [7,8,9] (fun y _ _ wr=>∃(i:Nat),i<=L.length/\y=I J i/\zkF w w3 m L f.1.size m.used m.tightI i wr) (fun y _ _ _=>L.length-(intOf y).toNat)
  case atStart=>exact⟨0,Nat.zero_le _,rfl,((ud aI).block _ ay).trans (ud aL),zk.refl _ _⟩
  case round=>
   obtain⟨i,hi,rfl,l,hk⟩:=hrel
   have ai:Y w.1.size w wr:=ab.trans (hk.below ab.size (fun k e=>by rw[e];omega))
   have hr:=(ud H).later ai
   have aD:=hr.lt
   obtain⟨q7,q8,q9,aY,aZ,b0,b2⟩:=hr.rest
   clear q7 q8 aZ b0 b2
   have aX:f.1.size<wr.1.size:=zb l
   have hv:=zg (ud aw) hk (fun k aR e=>by
    have:=((ud aw).lt k aR).1
    omega)
   have aa:=zd hr
   have HV:=zd hv
   have HK:=zd hk
   have aJ:=zd ai
   clear hr hv hk ai
   by_cases aQ:i<L.length
   ·obtain⟨s,hs⟩:=xz aQ
    obtain⟨g,b8,aW,bd,a0,x0,x1,x2⟩:=zaF (ud HV) hs
    injection aW with aE aF aG
    subst aE
    have Q:=zfj m L i s hs
    have be:(i:Int)<L.length:=by omega
    have az:=zdo m (L.take i)
    rw[List.length_take,Nat.min_eq_left hi]at az
    generalize zbP m (L.take i)=A at*
    obtain⟨a1,a2,a3,a4,a5,a6,a7,a8⟩:=az
    have ad:=zd Q
    have au:=zd l
    clear hs Q aF aG l
    have ak:Nonempty (zj wr.1.size wr):=zj.some _ _
    have aj:=fun(u:zj wr.1.size wr) b o h=>u.cell b o h
    have ar:=zd (fun(u:zj wr.1.size wr)=>xH B m.pub _ s u.1 (by omega) ((ud aa).later u.2).prow)
    have aq:=zd (fun(w1:U) (F:Y wr.1.size wr w1) (u:zj w1.1.size w1)=>xH B m.gone _ s u.1 (by omega) ((ud aa).later (F.trans (u.2.mono F.size))).grow)
    rcases kb s m.gone with⟨hm,q⟩|⟨hm,q⟩
    all_goals rw[hm]at aq
    have R:=zd (zaH (m:=m) (a:=A) q)
    clear hm q
    rotate_left
    by_cases d:s.t= -1
    have R:=zd (zaI (m:=m) (a:=A) q d)
    have aU:(s.t== -1)=true:=by simp[d]
    clear hm q d
    rotate_left
    have aU:(s.t== -1)=false:=by simp[d]
    rcases kb s m.pub with⟨a9,G⟩|⟨a9,G⟩
    all_goals try rw[a9]at ar
    have R:=zd (zdq (m:=m) (a:=A) q d G)
    clear hm q d a9 G
    rotate_left
    have R:=zd (zaJ (m:=m) (a:=A) q d G)
    clear hm q d a9 G
    all_goals
     go_wp2_with fail
     refine ze wr.1.size (by kernel_rfl) (by kernel_rfl) ?_
     repeat(go_big_quiet_step (first|(go_at_call 218;exact Calls.later (Z _) (ud ar _))))
     refine wpQuiet_nil ?_
     rintro⟨w4,n⟩
     clear aj ak
     have b7:=(n.cell (p:=⟨p,10,O⟩) aD).trans aY
     have y0:=(n.cell (p:=⟨g,i*3,O⟩) a0).trans x0
     have y1:=(n.cell (p:=⟨g,i*3+1,O⟩) a0).trans x1
     have y2:=(n.cell (p:=⟨g,i*3+2,O⟩) a0).trans x2
     have aB:g<w4.1.size:=N a0 n.size
     have bf:p<w4.1.size:=N aD n.size
     have ak:Nonempty (zj w4.1.size w4):=zj.some _ _
     have aj:=fun(u:zj w4.1.size w4) b o h=>u.cell b o h
     dsimp only
     go_wp2_with fail
     refine ze w4.1.size (by kernel_rfl) (by kernel_rfl) ?_
     repeat(go_big_quiet_step (first|(go_at_call 218;exact Calls.later (Z _) (ud aq w4 n _))))
     refine wpQuiet_nil ?_
     rintro⟨w5,ah⟩
     clear aj ak
     have ac:Y wr.1.size wr w5:=n.trans (ah.mono n.size)
     have z0:=(ah.cell (p:=⟨g,i*3,O⟩) aB).trans y0
     have bc:g<w5.1.size:=N aB ah.size
     have K:=zd ((ac.block _ aX).trans (ud au))
     have FK:=zd (vh (ud HK) ac)
     obtain⟨e0,e1,e2,e3,e4,e5,e6,e7,e8⟩:=zbU (ud K)
     clear y0 y1 y2 x0 x1 x2 b7
     dsimp only
     go_wp2_with fail
     go_roundw
     case rel=>exact⟨i+1,by omega,by go_num,by rw[ud ad,ud R];first|exact st_7 (ud K) _|exact st_4 (ud K) _|exact st_6 (ud K) _|exact st_5 (ud K) _,zq (ud FK) rfl⟩
     case measure=>simp[intOf];omega
   ·have aP:i=L.length:=by omega
    rw[aP,List.take_length]at l
    obtain⟨e0,e1,e2,e3,e4,e5,e6,e7,-⟩:=zbU l
    have qz:=(((ud HK).block w.1.size (by omega) (by omega)).trans (ud aM))
    obtain⟨f0,f1,f2,f3,f4,f5,f6,f7,-⟩:=zc qz
    have ff:∀j,wr.frozen? ⟨w.1.size,j,O⟩=false:=fun j=>zH qz j
    have QZ:=zd qz
    clear qz l
    generalize hA:zbP m L=A at*
    have HA:=zd hA
    clear hA
    go_wp2_with fail
    have hf:=set8 (ud QZ) (I J m.now) (I J m.used) (I J m.tightI) (I J m.epoch) (I J A.held) (I J A.wait) (I J A.pub) (I J A.gone)
    refine bodyPost_ret (v:=.agg #[I J m.now,I J m.used,I J m.tightI,I J m.epoch,I J A.held,I J A.wait,I J A.pub,I J A.gone]) (results_cell_row results145 _ _ w.1.size _ _ _ _ rfl hf underlying37 rfl (by kernel_rfl)) rfl ⟨by rw[ud HL,ud HA],?_⟩
    refine(ud aJ).trans ?_
    repeat(refine xN ?_ (Z _))
    exact D _ _
end Go.Proofs.YtndhpgciopcncaaGreatDoor
