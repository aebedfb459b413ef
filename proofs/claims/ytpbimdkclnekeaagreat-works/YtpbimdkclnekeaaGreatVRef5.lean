import Derived.Test.YtpbimdkclnekeaaGreatVLawC
import Derived.Shelf.Abstract
open Option renaming none → I
open Option renaming some → J
open Go.Value renaming int → O
open Go.IntKind renaming i64 → U
open Go renaming World → Y
open Go renaming Value → Z
set_option linter.unusedVariables false
set_option maxHeartbeats 2000000
open Go.Proofs.Tryz
namespace Go.Proofs.YtpbimdkclnekeaaGreat
open Go.RowKit
theorem Tryz.infoSegment:(prog.info? 232).map (fun i=>(i.zero,i.size,i.bytes))=J (J (.agg #[O U 0,O U 0,O U 0]),3,24):=by kernel_rfl
theorem Qx{α:Type}{f:α->List Z}{w:Y}{base:Nat}{e:TypeId}{k:Nat}{v:Z}{l:List α}{a:α}(h:w.ownsRow base e k v (l.length+1) (l.flatMap f++f a)):w.ownsRow base e k v (l++[a]).length ((l++[a]).flatMap f):=by
 rw[Y6,List.length_append];exact h
theorem zjK{w:Y}{ops:Array Oper}{rest:List Oper}{o:Oper}{a:Act}{Q:Exit->Act->Y->Prop}(i:o.guard=I)(s x:Operand)
  (r:o.op=.call {callee:=.builtin .append,args:=#[s,x],argTypes:=#[187,187]}) (base:Nat) (v:Z) (l:List Sg) (f:Sg) (y:a.eval s=v) (c:w.ownsRow base 232 3 v l.length (l.flatMap sgV))
  (d:Nat) (z:a.eval x=.slice (J ⟨d,0,I⟩) 1 1) (e:w.1[d]?=J (.cells #[O U f.t,O U f.se,O U f.we] 232 (0,0))) (A:l.length<=1099511627776) (b:base<=w.1.size)
  (h:∀g cap w',w'.ownsRow base 232 3 (.slice (J ⟨g,0,I⟩) (l.length+1) cap) (l++[f]).length ((l++[f]).flatMap sgV)->w'.ownsRow base 232 3 v l.length (l.flatMap sgV)->w.grownBy w' v.ownBlock->(v.ownBlock=J g\/g=w.1.size)->g<w'.1.size->wpList prog ops Q rest (a.put o.dst (.slice (J ⟨g,0,I⟩) (l.length+1) cap)) w'):wpList prog ops Q (o::rest) a w:=
 zP i s x 187 r base 232 _ 3 24 underlying187 Tryz.infoSegment rfl (by decide) v l.length (l.flatMap sgV) y c ⟨d,0,I⟩ 1 1 [O U f.t,O U f.se,O U f.we] z rfl
  (World.news_of_block (cs:=#[O U f.t,O U f.se,O U f.we]) e) (by intro u j;simp at j;rcases j with rfl|rfl|rfl<;>rfl) (by decide) (by simp only[maxLen];omega) (by omega) b
  fun g cap w' k m n p q=>h g cap w' (Qx k) m n p q
theorem zhf{l:List Sg}{s:Sg}(h:s∈l):Zu l s=l:=by simp[Zu,h]
theorem zep{l:List Sg}{s:Sg}(h:¬s∈l):Zu l s=l++[s]:=by simp[Zu,h]
theorem VI(c:Cf)(t:Int)(nu:List Nm)(l:List Sg):xL c t (nu.take 0) l=l:=by simp[xL]
theorem kL(s:Sg)(l:List Sg):(je s l=true/\s∈l)\/(je s l=false/\¬s∈l):=by
 by_cases h:s∈l
 ·exact .inl ⟨vf h,h⟩
 ·exact .inr ⟨XL h,h⟩
theorem vy{B:Nat}{w:Y}{p:Nat}{m:RM}{tv nv pv gv kv:Z}(h:zJ B w p m tv nv pv gv kv)(hc:m.c.ok)(a6:m.nu.length<=1000000000)(a7:∀x∈m.nu,x.ok):
  Calls prog 162 #[.pointer (J ⟨p,0,I⟩)] w fun e w'=>∃v,e=.returned v/\w'.ownsRow w.1.size 232 3 v (zS m.c m.nu).length ((zS m.c m.nu).flatMap sgV)/\Below w.1.size w w':=by
 have H:=ze h
 obtain⟨an,cn,a8⟩:=zq h.nrow
 subst a8
 obtain⟨ao,ct,aa⟩:=zq h.trow
 subst aa
 have aw:=hc.n4
 have ax:=h.lt
 clear h
 go_enter func162,ntmps162
 go_wp2_with fail
 go_loopw [3,4,5,6,7] (fun v y _ _ _ wr=>∃(k:Nat),k<=m.c.n+1/\y=O U ((k:Int)-1)/\wr.ownsRow w.1.size 232 3 v (yI m.c m.nu k).length ((yI m.c m.nu k).flatMap sgV)/\Below w.1.size w wr) (fun _ y _ _ _ _=>m.c.n+1-(intOf y+1).toNat)
 case atStart=>exact⟨0,Nat.zero_le _,rfl,World.ownsRow_nil _ _ _ _,Below.refl _ _⟩
 case round=>
  obtain⟨k,hk,rfl,hv,z⟩:=hrel
  have j:=(ud H).later z
  have Q:=j.lt
  obtain⟨c0,c1,c2,c3,c4,c5,c6⟩:=j.conf
  clear c0 c1 c2 c3 c4 c5
  by_cases av:k<m.c.n+1
  ·have a5:(k:Int)-1<m.c.n:=by omega
   have a3: -1<=(k:Int)-1:=by omega
   obtain⟨a0,ai,ab⟩:=zq hv
   have F:=ze hv
   have u:=ze z
   clear j hv z
   subst ab
   go_wp2_with fail
   go_loopw [3,5,6,7] (fun v y _ _ wq=>∃(i:Nat),i<=m.nu.length/\y=O U i/\wq.ownsRow w.1.size 232 3 v (xL m.c ((k:Int)-1) (m.nu.take i) (yI m.c m.nu k)).length ((xL m.c ((k:Int)-1) (m.nu.take i) (yI m.c m.nu k)).flatMap sgV)/\Below w.1.size w wq) (fun _ y _ _ _=>m.nu.length-(intOf y).toNat)
   case atStart=>exact⟨0,Nat.zero_le _,rfl,by rw[VI];exact ud F,ud u⟩
   case round=>
    clear F u c6 Q
    obtain⟨i,hi,rfl,hv,z⟩:=hrel
    have j:=(ud H).later z
    have Q:=j.lt
    obtain⟨r7,r8,r9,ad,ae,af,ag⟩:=j.rest
    clear r7 r9 ad ae af ag
    obtain⟨a1,K,C⟩:=zq hv
    have F:=ze hv
    have u:=ze z
    have am:=ze j
    by_cases a2:i<m.nu.length
    ·obtain⟨x,V⟩:=xr a2
     have R:=a7 x (List.mem_of_getElem? V)
     obtain⟨g,ah,ac,_,ar,x0,x1,x2⟩:=zkU j.nrow V
     cases ac
     have s:=VH m.c ((k:Int)-1) m.nu (yI m.c m.nu k) i x V
     have ap:(xL m.c ((k:Int)-1) (m.nu.take i) (yI m.c m.nu k)).length<=6000000000:=by
      have h1:=jL m.c ((k:Int)-1) (m.nu.take i) (yI m.c m.nu k)
      have h2:=XR m.c m.nu k
      have h3:k*m.nu.length<=5*1000000000:=Nat.mul_le_mul (by omega) a6
      rw[List.length_take]at h1
      omega
     have au:(i:Int)<m.nu.length:=by omega
     have G:=ze (ZH j hc ((k:Int)-1) a3 a5 x R)
     have l:=ze s
     subst C
     generalize xL m.c ((k:Int)-1) (m.nu.take i) (yI m.c m.nu k)=L at*
     clear V s R j hv z
     go_wp2_with fail
     refine(ud G).mono ?_
     rintro e w1 ⟨rfl,M⟩
     generalize zI m.c ((k:Int)-1) x=d at*
     have b:∀o,Below wr.1.size wr (w1.alloc o):=fun o=>M.alloc M.size _
     have A:=ze (xT w.1.size L _ d _ (by omega) (xv (ud F) (b (.cells #[O U d.t,O U d.se,O U d.we] 232))))
     rcases kL d L with⟨N,r⟩|⟨N,r⟩
     ·rw[N]at A
      have D:=ze (zhf r)
      clear N r
      go_wp2_with fail
      refine(ud A).mono ?_
      rintro e w2 ⟨rfl,f⟩
      have S:=ze ((ud u).trans (((b (.cells #[O U d.t,O U d.se,O U d.we] 232)).trans (f.mono (b _).size)).mono (ud u).size))
      have T:=ze (xv (ud F) ((b (.cells #[O U d.t,O U d.se,O U d.we] 232)).trans (f.mono (b _).size)))
      go_wp2_with fail
      go_roundw
      case rel=>exact⟨i+1,by omega,by go_num,by rw[ud l,ud D];exact ud T,ud S⟩
      case measure=>simp[intOf];omega
     ·rw[N]at A
      have D:=ze (zep r)
      clear N r
      go_wp2_with fail
      refine(ud A).mono ?_
      rintro e w2 ⟨rfl,f⟩
      have S:=ze ((ud u).trans (((b (.cells #[O U d.t,O U d.se,O U d.we] 232)).trans (f.mono (b _).size)).mono (ud u).size))
      have T:=ze (xv (ud F) ((b (.cells #[O U d.t,O U d.se,O U d.we] 232)).trans (f.mono (b _).size)))
      have q:=(f.block w1.1.size (by rw[zF];omega)).trans (zo _ _)
      obtain⟨z0,z1,z2,-⟩:=zc q
      have a9:w.1.size<=w2.1.size:=(ud S).size
      clear q
      go_wp2_with(first
       |(at_builtin;refine zjK rfl _ _ rfl w.1.size _ L d rfl ((ud T).alloc _) w2.1.size rfl (zo _ _) ?hll ?hbb ?_;(case hll=>omega);(case hbb=>(rw[zF];omega));intro g2 aj w3 P al E aq ak)
       |fail)
      have W:Below w.1.size w w3:=((ud S).alloc a9 _).grown E (by simp;omega) (fun k hk=>((ud T).lt k hk).1)
      exact⟨⟨i+1,by omega,by go_num,by rw[ud l,ud D];exact P,W⟩,by simp[intOf];omega⟩
    ·have X:i=m.nu.length:=by omega
     have a:=hv
     rw[X,List.take_length,<-jh]at a
     have a:=ze a
     subst C
     clear hv z j
     go_wp2_with fail
     go_roundw
     case rel=>exact⟨k+1,by omega,by go_num,ud a,ud u⟩
     case measure=>simp[intOf];omega
  ·have a4:k=m.c.n+1:=by omega
   have a:=hv
   rw[a4]at a
   have a:=ze a
   have u:=ze z
   obtain⟨a1,K,C⟩:=zq hv
   subst C
   clear hv z j
   go_wp2_with fail
   go_ret
   exact⟨_,rfl,ud a,ud u⟩
theorem vR{c:Cf}{nu:List Nm}(d:c.n<=4)(h:nu.length<=1000000000):(zS c nu).length<=5000000000:=by
 have a:=XR c nu (c.n+1)
 have b:(c.n+1)*nu.length<=5*1000000000:=Nat.mul_le_mul (by omega) h
 unfold zS;omega
theorem XT{c:Cf}{nu:List Nm}{rc l:List Sg}(d:l.length<=5000000000)(hn:nu.length<=1000000000)(h:∀x∈nu,x.ok):0<=vm c nu rc l/\vm c nu rc l<=6000000000000000000:=by
 have a:=zaj (c:=c) (nu:=nu) (rc:=rc) (l:=l) h
 have b:(l.length:Int)*(nu.length+2)<=5000000000*1000000002:=Int.mul_le_mul (by omega) (by omega) (by omega) (by omega)
 omega
theorem ziw{c:Cf}{nu:List Nm}{rc:List Sg}{s:Sg}(h:s∈rc):jP c nu rc s=0:=by simp[jP,h]
theorem zkc{c:Cf}{nu:List Nm}{rc:List Sg}{s:Sg}(h:¬s∈rc)(a:s.t= -1):jP c nu rc s=(xn c s nu).cnt:=by simp[jP,h,a]
theorem zix{c:Cf}{nu:List Nm}{rc:List Sg}{s:Sg}(h:¬s∈rc)(a:¬s.t= -1):jP c nu rc s=2:=by simp[jP,h,a]
theorem zgn{c:Cf}{nu:List Nm}{s:Sg}(h:s∈zS c nu): -1<=s.t/\s.t<c.n:=by
 have:=yT.1 h;exact⟨this.1,this.2.1⟩
theorem VU{B:Nat}{w:Y}{p:Nat}{m:RM}{tv nv pv gv kv:Z}(h:zJ B w p m tv nv pv gv kv)(hc:m.c.ok)(D:m.nu.length<=1000000000)(ar:m.gone.length<=1000000000000)(E:∀x∈m.nu,x.ok):
  Calls prog 160 #[.pointer (J ⟨p,0,I⟩)] w fun e w'=>e=.returned (O U m.used)/\Below w.1.size w w':=by
 have H:=ze h
 have HS:=ze (vy h hc D E)
 have aw:=vR (nu:=m.nu) hc.n4 D
 have HU:Hid (m.used=vm m.c m.nu m.gone (zS m.c m.nu)):=rfl
 have HM:=ze (fun s V=>zgn (c:=m.c) (nu:=m.nu) (s:=s) V)
 obtain⟨ag,cg,aa⟩:=zq h.grow
 subst aa
 clear h
 generalize zS m.c m.nu=L at*
 go_enter func160,ntmps160
 go_wp2_with fail
 refine(ud HS).mono ?_
 rintro e w0 ⟨v,rfl,P,a0⟩
 obtain⟨al,cl,af⟩:=zq P
 subst af
 have a7:=ze P
 have W:=ze a0
 clear P a0
 go_wp2_with fail
 go_loopw [3,5,6,7] (fun z y _ _ wr=>∃(i:Nat),i<=L.length/\y=O U i/\z=O U (vm m.c m.nu m.gone (L.take i))/\Below w0.1.size w0 wr) (fun _ y _ _ _=>L.length-(intOf y).toNat)
 case atStart=>exact⟨0,Nat.zero_le _,rfl,by simp[vm],Below.refl _ _⟩
 case round=>
  obtain⟨i,hi,rfl,rfl,hb⟩:=hrel
  have K:Below w.1.size w wr:=(ud W).trans (hb.mono (ud W).size)
  have hr:=(ud H).later K
  have av:=hr.lt
  obtain⟨r7,r8,r9,ax,ai,aj,ak⟩:=hr.rest
  clear r7 r8 r9 ai aj ak
  have S:=ze hb
  have a6:=ze K
  have X:=ze hr
  have HV:=ze (xv (ud a7) hb)
  clear hr K hb
  by_cases ac:i<L.length
  ·obtain⟨s,V⟩:=xr ac
   obtain⟨g,am,ah,_,d,R,x1,x2⟩:=zbn (ud HV) V
   injection ah with a3 a4 a5
   subst a3
   have C:=zbw m.c m.nu m.gone L i s V
   obtain⟨a1,a2⟩:=ud HM s (List.mem_of_getElem? V)
   have au:(i:Int)<L.length:=by omega
   have ae:=XT (c:=m.c) (rc:=m.gone) (l:=L.take i) (by rw[List.length_take];omega) D E
   have a8:=kb (c:=m.c) (s:=s) (nu:=m.nu) E
   obtain⟨ap,aq⟩:=ae
   obtain⟨an,ao,-⟩:=a8
   have k:=ze C
   clear V C a4 a5
   generalize vm m.c m.nu m.gone (L.take i)=u at*
   have N:Nonempty (zm wr.1.size wr):=zm.some _ _
   have M:=fun(u:zm wr.1.size wr) b o h=>u.cell b o h
   have r:=ze (fun(u:zm wr.1.size wr)=>xT B m.gone _ s u.1 (by omega) ((ud X).later u.2).grow)
   have G:=ze (fun(Q:Y) (a:Below wr.1.size wr Q)=>zbC ((ud X).later a) hc D E s a1 a2)
   rcases kL s m.gone with⟨T,n⟩|⟨T,n⟩
   ·rw[T]at r
    have q:=ze (ziw (c:=m.c) (nu:=m.nu) n)
    clear T n
    go_wp2_with fail
    refine zh wr.1.size (by kernel_rfl) (by kernel_rfl) ?_
    repeat(go_big_quiet_step (first|(go_at_call 159;exact Calls.later (Nat.le_refl _) (ud r _))))
    refine wpQuiet_nil ?_
    rintro⟨Q,a⟩
    clear M N
    have z0:=(a.cell (p:=⟨g,i*3,I⟩) d).trans R
    have z1:=(a.cell (p:=⟨g,i*3+1,I⟩) d).trans x1
    have z2:=(a.cell (p:=⟨g,i*3+2,I⟩) d).trans x2
    dsimp only
    go_wp2_with fail
    refine(ud G Q a).mono ?_
    rintro e w2 ⟨rfl,j⟩
    have F:=ze ((ud S).trans ((a.trans (j.mono a.size)).mono (ud S).size))
    go_wp2_with fail
    go_roundw
    case rel=>exact⟨i+1,by omega,by go_num,by rw[ud k,ud q];simp,(ud F).alloc (ud F).size _⟩
    case measure=>simp[intOf];omega
   ·rw[T]at r
    by_cases f:s.t= -1
    ·have q:=ze (zkc (c:=m.c) (nu:=m.nu) n f)
     have ad:(s.t== -1)=true:=by simp[f]
     clear T n f
     go_wp2_with fail
     refine zh wr.1.size (by kernel_rfl) (by kernel_rfl) ?_
     repeat(go_big_quiet_step (first|(go_at_call 159;exact Calls.later (Nat.le_refl _) (ud r _))))
     refine wpQuiet_nil ?_
     rintro⟨Q,a⟩
     clear M N
     have z0:=(a.cell (p:=⟨g,i*3,I⟩) d).trans R
     have z1:=(a.cell (p:=⟨g,i*3+1,I⟩) d).trans x1
     have z2:=(a.cell (p:=⟨g,i*3+2,I⟩) d).trans x2
     dsimp only
     go_wp2_with fail
     refine(ud G Q a).mono ?_
     rintro e w2 ⟨rfl,j⟩
     have F:=ze ((ud S).trans ((a.trans (j.mono a.size)).mono (ud S).size))
     have y0:=((a.trans (j.mono a.size)).cell (p:=⟨g,i*3,I⟩) d).trans R
     have a9:g<w2.1.size:=Nat.lt_of_lt_of_le d (a.trans (j.mono a.size)).size
     clear z0 z1 z2 R x1 x2
     generalize xn m.c s m.nu=A at*
     go_wp2_with fail
     go_roundw
     case rel=>exact⟨i+1,by omega,by go_num,by rw[ud k,ud q],(ud F).alloc (ud F).size _⟩
     case measure=>simp[intOf];omega
    ·have q:=ze (zix (c:=m.c) (nu:=m.nu) n f)
     have ad:(s.t== -1)=false:=by simp[f]
     clear T n f
     go_wp2_with fail
     refine zh wr.1.size (by kernel_rfl) (by kernel_rfl) ?_
     repeat(go_big_quiet_step (first|(go_at_call 159;exact Calls.later (Nat.le_refl _) (ud r _))))
     refine wpQuiet_nil ?_
     rintro⟨Q,a⟩
     clear M N
     have z0:=(a.cell (p:=⟨g,i*3,I⟩) d).trans R
     have z1:=(a.cell (p:=⟨g,i*3+1,I⟩) d).trans x1
     have z2:=(a.cell (p:=⟨g,i*3+2,I⟩) d).trans x2
     dsimp only
     go_wp2_with fail
     refine(ud G Q a).mono ?_
     rintro e w2 ⟨rfl,j⟩
     have F:=ze ((ud S).trans ((a.trans (j.mono a.size)).mono (ud S).size))
     have y0:=((a.trans (j.mono a.size)).cell (p:=⟨g,i*3,I⟩) d).trans R
     have a9:g<w2.1.size:=Nat.lt_of_lt_of_le d (a.trans (j.mono a.size)).size
     clear z0 z1 z2 R x1 x2
     generalize xn m.c s m.nu=A at*
     go_wp2_with fail
     go_roundw
     case rel=>exact⟨i+1,by omega,by go_num,by rw[ud k,ud q],(ud F).alloc (ud F).size _⟩
     case measure=>simp[intOf];omega
  ·have ab:i=L.length:=by omega
   have hU:=ud HU
   have hx:vm m.c m.nu m.gone (L.take i)=m.used:=by rw[ab,List.take_length,hU]
   rw[hx]
   go_wp2_with fail
   go_ret
   exact⟨rfl,ud a6⟩
def RM.tight(m:RM):Bool:=decide (3*m.c.qu<4*m.used)
theorem zah{B:Nat}{w:Y}{p:Nat}{m:RM}{tv nv pv gv kv:Z}(h:zJ B w p m tv nv pv gv kv)(d:m.c.ok)(s:m.nu.length<=100000000)(f:m.gone.length<=1000000000000)(b:∀x∈m.nu,x.ok)(A:m.used<=1000000000000000000):
  Calls prog 161 #[.pointer (J ⟨p,0,I⟩)] w fun e w'=>e=.returned (.bool m.tight)/\Below w.1.size w w':=by
 have i:=ze (VU h d (by omega) f b)
 have v:0<=m.used:=(XT (c:=m.c) (rc:=m.gone) (vR d.n4 (by omega)) (by omega) b).1
 have t:=h.lt
 obtain⟨j,k,l,n,o,q,r⟩:=h.conf
 have z:=d.qu
 have g:Hid (m.tight=decide (3*m.c.qu<4*m.used)):=rfl
 clear h j k l n o r
 go_enter func161,ntmps161
 go_wp2_with fail
 refine(ud i).mono ?_
 rintro e C ⟨rfl,a⟩
 have y:=(a.cell (p:=⟨p,5,I⟩) t).trans q
 generalize m.used=u at*
 go_wp2_with fail
 go_ret
 exact⟨zL (by rw[ud g]),a⟩
theorem Tryz.infoTier:(prog.info? 66).map (fun i=>(i.zero,i.size,i.bytes))=J (J (.agg #[O U 0,O U 0,O U 0]),3,24):=by kernel_rfl
def yX(n:Nat):Array Z:=madeCells #[O U 0,O U 0,O U 0] ((n+1)*3)
theorem ji(n:Nat):(yX n).size=(n+1)*3:=size_madeCells _ _
theorem zdg(n:Nat)(j:24*(n+1)<=281474976710656)(a:Y):
  (Instr.makeSlice 25 (O U ((n:Int)+1)) (O U ((n:Int)+1))).run prog a=.ok (.slice (J ⟨a.1.size,0,I⟩) (n+1) (n+1)) (a.alloc (.cells (yX n) 66)):=by
 have c:=Tryz.infoTier
 cases d:prog.info? 66 with
 |none=>simp[d]at c
 |some i=>
  simp only[d,Option.map_some,Option.some.injEq,Prod.mk.injEq]at c
  obtain⟨h,g,b⟩:=c
  have f:=run_make (P:=prog) a 25 66 i _ underlying25 d h .i64 .i64 ((n:Int)+1) ((n:Int)+1) (by omega) (by omega) (by rw[b];omega) (by omega)
  rw[f,g]
  have e:((n:Int)+1).toNat=n+1:=by omega
  rw[e];rfl
theorem ZX{w:Y}{g:Nat}{cs:Array Z}{t:TypeId}{a:Nat×Nat}(h:w.1[g]?=J (.cells cs t a))(i:Nat):w.cell? ⟨g,i,I⟩=cs[i]?:=by simp[World.cell?,h]
theorem vU{w:Y}{g:Nat}{cs:Array Z}{t:TypeId}(h:w.1[g]?=J (.cells cs t (0,0)))(i:Nat):w.frozen? ⟨g,i,I⟩=false:=by simp[World.frozen?,h]
theorem TS.cells{w:Y}{a:Option Addr}{n:Nat}{F W K:Nat->Int}(h:TS w a n F W K):0<(Xk n F W K).length->∃ad,a=J ad/\∀j v,(Xk n F W K)[j]?=J v->w.cell? (ad.add j)=J v:=by
 intro l
 rw[xl]at l
 obtain⟨b,f,rfl,_,m⟩:=h (by omega)
 refine⟨_,rfl,fun j v hv=>?_⟩
 have o:j<n*3:=by
  have:=(List.getElem?_eq_some_iff.1 hv).1;rwa[xl]at this
 rw[QD n F W K j o]at hv
 cases hv
 have d:(⟨b,f,I⟩:Addr).add j=⟨b,f+j,I⟩:=by unfold Addr.add;split<;>simp_all
 rw[d]
 obtain⟨g,i,k⟩:=m (j/3) (by omega)
 rcases(show j%3=0\/j%3=1\/j%3=2 by omega)with e|e|e
 ·have c:j=j/3*3:=by omega
  rw[c,zaC];exact g
 ·have c:j=j/3*3+1:=by omega
  rw[c,zaD];exact i
 ·have c:j=j/3*3+2:=by omega
  rw[c,zaE];exact k
theorem TS.of_row{w:Y}{g n:Nat}{F W K:Nat->Int}{r:List Z}{t:TypeId}{d:Nat×Nat}(b:w.1[g]?=J (.cells (Xk n F W K++r).toArray t d)):TS w (J ⟨g,0,I⟩) n F W K:=fun _=>by
 have a:g<w.1.size:=(Array.getElem?_eq_some_iff.1 b).1
 refine⟨g,0,rfl,a,fun i f=>?_⟩
 have e:∀j,j<n*3->w.cell? ⟨g,j,I⟩=J (ZV F W K j):=fun j c=>by
  simp only[World.cell?,b]
  simp[List.getElem?_append_left (show j<(Xk n F W K).length by rw[xl];exact c),QD n F W K j c]
 simp only[Nat.zero_add]
 refine⟨?_,?_,?_⟩
 ·rw[e _ (by omega),zaC]
 ·rw[e _ (by omega),zaD]
 ·rw[e _ (by omega),zaE]
theorem TS.setCell{w:Y}{g a n:Nat}{F W K:Nat->Int}(h:TS w (J ⟨g,a,I⟩) n F W K)(o:Nat)(v:Z)(q:a+n*3<=o):TS (w.setCell ⟨g,o,I⟩ v) (J ⟨g,a,I⟩) n F W K:=fun l=>by
 obtain⟨b,j,e,f,m⟩:=h l
 cases e
 refine⟨g,a,rfl,by simpa[World.setCell]using f,fun i p=>?_⟩
 have c:∀d,d<o->(w.setCell ⟨g,o,I⟩ v).cell? ⟨g,d,I⟩=w.cell? ⟨g,d,I⟩:=fun d k=>World.cell?_setCell_other _ _ _ _ (by intro e;cases e;exact absurd k (Nat.lt_irrefl _))
 rw[c _ (by omega),c _ (by omega),c _ (by omega)]
 exact m i p
theorem YA{w:Y}{ops:Array Oper}{o:Oper}{a:Act}{K:Act->Y->Prop}{Q:Exit->Act->Y->Prop}{E:Prop}(p:o.guard=I)(s x:Operand)(t e:TypeId)(size c:Nat){z:Z}
  (H:o.op=.call {callee:=.builtin .append,args:=#[s,x],argTypes:=#[t,t]}) (N:prog.underlying t=J (.slice e)) (d:(prog.info? e).map (fun i=>(i.zero,i.size,i.bytes))=J (J z,size,c)) (y:z.cells.size=size) (r:0<size)
  (base:Nat) (v:Z) (n:Nat) (xs:List Z) (M:a.eval s=v) (k:w.ownsRow base e size v n xs) (l:Nat) (b:List Z) (V:TypeId) (A:Nat×Nat) (S:a.eval x=.slice (J ⟨l,0,I⟩) 1 1) (m:w.1[l]?=J (.cells b.toArray V A)) (W:b.length=size) (B:∀u∈b,u.oneCell'=true)
  (h63:n+1<=maxLen) (hbytes:(n+1)*c<=140737488355328) (f:base<=w.1.size)
  (h:∀g cap w',w'.ownsRow base e size (.slice (J ⟨g,0,I⟩) (n+1) cap) (n+1) (xs++b)->w.grownBy w' v.ownBlock->(v.ownBlock=J g\/g=w.1.size)->g<w'.1.size->K (a.put o.dst (.slice (J ⟨g,0,I⟩) (n+1) cap)) w'):
  if Region.wanted o (yielded ops a.tmps)=true then Oper.wp prog o a w K Q else E:=by
 have R:Region.wanted o (yielded ops a.tmps)=true:=by simp[Region.wanted,p]
 rw[if_pos R]
 cases q:prog.info? e with
 |none=>simp[q]at d
 |some i=>
  simp only[q,Option.map_some,Option.some.injEq,Prod.mk.injEq]at d
  obtain⟨T,j,hby⟩:=d
  have hn:=World.news_of_block (cs:=b.toArray) m
  obtain⟨g,cap,w',L,C,_,D,F,G⟩:=vi (P:=prog) w t o.type base e i _ size c N q T j hby y r v n xs k ⟨l,0,I⟩ 1 1 b (by omega) hn B (by decide) h63 hbytes f
  unfold Oper.wp
  simp[execOp,H,resolve,invoke,builtin,M,S,L,Result.andThen]
  exact h g cap w' C D F G
end Go.Proofs.YtpbimdkclnekeaaGreat
