import Derived.Test.YtpbimdkclnekeaaGreatVRef5
open Option renaming none → I
open Go.Value renaming int → J
open Go.IntKind renaming i64 → K
open Option renaming some → O
open Nat renaming le_refl → E
open Nat renaming lt_of_lt_of_le → Q
set_option linter.unusedVariables false
set_option maxHeartbeats 4000000
namespace Go.Proofs.YtpbimdkclnekeaaGreat
open Go.RowKit
structure Sc where
 held:Int
 wait:Int
 pub:Int
 gone:Int
def vk(m:RM)(a:Sc)(s:Sg):Sc:=
 if s∈m.gone then⟨a.held,a.wait,a.pub,a.gone+1⟩else if s.t= -1 then⟨a.held+1,a.wait,a.pub,a.gone⟩else if s∈m.pub then⟨a.held,a.wait,a.pub+1,a.gone⟩else⟨a.held,a.wait+1,a.pub,a.gone⟩
def zcm(m:RM)(l:List Sg):Sc:=l.foldl (vk m) ⟨0,0,0,0⟩
theorem zgl(m:RM)(l:List Sg)(i:Nat)(s:Sg)(h:l[i]?=O s):zcm m (l.take (i+1))=vk m (zcm m (l.take i)) s:=by
 obtain⟨a,b⟩:=List.getElem?_eq_some_iff.1 h
 rw[List.take_succ_eq_append_getElem a,b];simp[zcm]
theorem zbo{m:RM}{a:Sc}{s:Sg}(h:s∈m.gone):vk m a s=⟨a.held,a.wait,a.pub,a.gone+1⟩:=by simp[vk,h]
theorem zbp{m:RM}{a:Sc}{s:Sg}(h:¬s∈m.gone)(b:s.t= -1):vk m a s=⟨a.held+1,a.wait,a.pub,a.gone⟩:=by simp[vk,h,b]
theorem zdX{m:RM}{a:Sc}{s:Sg}(h:¬s∈m.gone)(b:¬s.t= -1)(c:s∈m.pub):vk m a s=⟨a.held,a.wait,a.pub+1,a.gone⟩:=by simp[vk,h,b,c]
theorem zbq{m:RM}{a:Sc}{s:Sg}(h:¬s∈m.gone)(b:¬s.t= -1)(c:¬s∈m.pub):vk m a s=⟨a.held,a.wait+1,a.pub,a.gone⟩:=by simp[vk,h,b,c]
def Sc.ok(a:Sc)(n:Int):Prop:=0<=a.held/\a.held<=n/\0<=a.wait/\a.wait<=n/\0<=a.pub/\a.pub<=n/\0<=a.gone/\a.gone<=n
theorem Yw(m:RM):∀(l:List Sg) (a:Sc) (n:Nat),a.ok n->(l.foldl (vk m) a).ok (n+l.length)
 |[],a,n,h=>by simpa using h
 |s::r,a,n,h=>by
  have:=Yw m r (vk m a s) (n+1) (by
   unfold Sc.ok at h ⊢
   unfold vk
   split
   ·dsimp only;omega
   ·split
    ·dsimp only;omega
    ·split
     ·dsimp only;omega
     ·dsimp only;omega)
  rw[List.foldl_cons,List.length_cons]
  unfold Sc.ok at this ⊢
  omega
theorem zdU(m:RM)(l:List Sg):(zcm m l).ok l.length:=by
 have:=Yw m l ⟨0,0,0,0⟩ 0 (by simp[Sc.ok])
 simpa[zcm]using this
def RM.tightI(m:RM):Int:=if m.tight then 1 else 0
theorem zbu{m:RM}(h:m.tight=true):m.tightI=1:=by simp[RM.tightI,h]
theorem zag{m:RM}(h:m.tight=false):m.tightI=0:=by simp[RM.tightI,h]
def vr(now used a ep:Int)(A:Sc):Obj:=.cells #[J K now,J K used,J K a,J K ep,J K A.held,J K A.wait,J K A.pub,J K A.gone] 37 (0,0)
theorem zct{w:World}{g:Nat}{now used a ep:Int}{A:Sc}(h:w.1[g]?=O (vr now used a ep A)):
  w.cell? ⟨g,0,I⟩=O (J K now)/\w.cell? ⟨g,1,I⟩=O (J K used)/\w.cell? ⟨g,2,I⟩=O (J K a)/\w.cell? ⟨g,3,I⟩=O (J K ep)/\w.cell? ⟨g,4,I⟩=O (J K A.held)/\w.cell? ⟨g,5,I⟩=O (J K A.wait)/\w.cell? ⟨g,6,I⟩=O (J K A.pub)/\w.cell? ⟨g,7,I⟩=O (J K A.gone)/\∀j,w.frozen? ⟨g,j,I⟩=false:=by
 refine⟨?_,?_,?_,?_,?_,?_,?_,?_,fun j=>zD h j⟩<;>rw[zN h]<;>rfl
theorem st_4{w:World}{g:Nat}{now used a ep:Int}{A:Sc}(h:w.1[g]?=O (vr now used a ep A))(v:Int):(w.setCell ⟨g,4,I⟩ (J K v)).1[g]?=O (vr now used a ep ⟨v,A.wait,A.pub,A.gone⟩):=xm (i:=4) h (J K v)
theorem st_5{w:World}{g:Nat}{now used a ep:Int}{A:Sc}(h:w.1[g]?=O (vr now used a ep A))(v:Int):(w.setCell ⟨g,5,I⟩ (J K v)).1[g]?=O (vr now used a ep ⟨A.held,v,A.pub,A.gone⟩):=xm (i:=5) h (J K v)
theorem st_6{w:World}{g:Nat}{now used a ep:Int}{A:Sc}(h:w.1[g]?=O (vr now used a ep A))(v:Int):(w.setCell ⟨g,6,I⟩ (J K v)).1[g]?=O (vr now used a ep ⟨A.held,A.wait,v,A.gone⟩):=xm (i:=6) h (J K v)
theorem st_7{w:World}{g:Nat}{now used a ep:Int}{A:Sc}(h:w.1[g]?=O (vr now used a ep A))(v:Int):(w.setCell ⟨g,7,I⟩ (J K v)).1[g]?=O (vr now used a ep ⟨A.held,A.wait,A.pub,v⟩):=xm (i:=7) h (J K v)
theorem zn{f:Nat->Prop}{a w:World}{g i:Nat}{v:Value}(h:zk f a w)(b:f g):zk f a (w.setCell ⟨g,i,I⟩ v):=h.setCell (p:=⟨g,i,I⟩) (fun _=>b) v
theorem qS{f:Nat->Prop}{a w w':World}(h:zk f a w)(b:Below w.1.size w w'):zk f a w':=h.trans (zk.of_below (f:=f) b) (fun _ _ h=>h)
theorem set8{w:World}{g:Nat}{a b c d e f i j:Value}{t:TypeId}{p:Nat×Nat}(h:w.1[g]?=O (.cells #[a,b,c,d,e,f,i,j] t p))(k l m n o q r s:Value):((((((((w.setCell ⟨g,0,I⟩ k).setCell ⟨g,1,I⟩ l).setCell ⟨g,2,I⟩ m).setCell ⟨g,3,I⟩ n).setCell ⟨g,4,I⟩ o).setCell ⟨g,5,I⟩ q).setCell ⟨g,6,I⟩ r).setCell ⟨g,7,I⟩ s).1[g]?=O (.cells #[k,l,m,n,o,q,r,s] t p):=by
 have u:(w.setCell ⟨g,0,I⟩ k).1[g]?=O (.cells #[k,b,c,d,e,f,i,j] t p):=xm (i:=0) h k
 have v:((w.setCell ⟨g,0,I⟩ k).setCell ⟨g,1,I⟩ l).1[g]?=O (.cells #[k,l,c,d,e,f,i,j] t p):=xm (i:=1) u l
 have x:(((w.setCell ⟨g,0,I⟩ k).setCell ⟨g,1,I⟩ l).setCell ⟨g,2,I⟩ m).1[g]?=O (.cells #[k,l,m,d,e,f,i,j] t p):=xm (i:=2) v m
 have y:((((w.setCell ⟨g,0,I⟩ k).setCell ⟨g,1,I⟩ l).setCell ⟨g,2,I⟩ m).setCell ⟨g,3,I⟩ n).1[g]?=O (.cells #[k,l,m,n,e,f,i,j] t p):=xm (i:=3) x n
 have z:(((((w.setCell ⟨g,0,I⟩ k).setCell ⟨g,1,I⟩ l).setCell ⟨g,2,I⟩ m).setCell ⟨g,3,I⟩ n).setCell ⟨g,4,I⟩ o).1[g]?=O (.cells #[k,l,m,n,o,f,i,j] t p):=xm (i:=4) y o
 have A:((((((w.setCell ⟨g,0,I⟩ k).setCell ⟨g,1,I⟩ l).setCell ⟨g,2,I⟩ m).setCell ⟨g,3,I⟩ n).setCell ⟨g,4,I⟩ o).setCell ⟨g,5,I⟩ q).1[g]?=O (.cells #[k,l,m,n,o,q,i,j] t p):=xm (i:=5) z q
 have B:(((((((w.setCell ⟨g,0,I⟩ k).setCell ⟨g,1,I⟩ l).setCell ⟨g,2,I⟩ m).setCell ⟨g,3,I⟩ n).setCell ⟨g,4,I⟩ o).setCell ⟨g,5,I⟩ q).setCell ⟨g,6,I⟩ r).1[g]?=O (.cells #[k,l,m,n,o,q,r,j] t p):=xm (i:=6) A r
 have C:((((((((w.setCell ⟨g,0,I⟩ k).setCell ⟨g,1,I⟩ l).setCell ⟨g,2,I⟩ m).setCell ⟨g,3,I⟩ n).setCell ⟨g,4,I⟩ o).setCell ⟨g,5,I⟩ q).setCell ⟨g,6,I⟩ r).setCell ⟨g,7,I⟩ s).1[g]?=O (.cells #[k,l,m,n,o,q,r,s] t p):=xm (i:=7) B s
 exact C
def zlH(w c:World)(m:RM)(L:List Sg)(a:Nat)(u b:Int)(i:Nat)(wr:World):Prop:=
 wr.1[a]?=O (vr m.now u b m.epoch (zcm m (L.take i)))/\zk (fun k=>k=a) c wr
theorem zgv{B:Nat}{w:World}{p:Nat}{m:RM}{tv nv pv gv kv:Value}(h:zJ B w p m tv nv pv gv kv)(hc:m.c.ok)(aP:m.nu.length<=100000000)(az:m.gone.length<=1000000000000)(bd:m.pub.length<=1000000000000)(ai:∀x∈m.nu,x.ok)(hu:m.used<=1000000000000000000):
  Calls Tryz.prog 108 #[.pointer (O ⟨p,0,I⟩)] w fun e w'=>e=.returned (.agg #[J K m.now,J K m.used,J K m.tightI,J K m.epoch,J K (zcm m (zS m.c m.nu)).held,J K (zcm m (zS m.c m.nu)).wait,J K (zcm m (zS m.c m.nu)).pub,J K (zcm m (zS m.c m.nu)).gone])/\Below w.1.size w w':=by
 have H:=ze h
 have b1:=zo w (.cells #[J K 0,J K 0,J K 0,J K 0,J K 0,J K 0,J K 0,J K 0] 37)
 have r:Below w.1.size w (w.alloc (.cells #[J K 0,J K 0,J K 0,J K 0,J K 0,J K 0,J K 0,J K 0] 37)):=(Below.refl _ _).alloc (E _) _
 have be:=vR (nu:=m.nu) hc.n4 (by omega)
 obtain⟨ag,cg,aL⟩:=zq h.grow
 subst aL
 obtain⟨ap,cp,aQ⟩:=zq h.prow
 subst aQ
 have hp:=h.lt
 generalize hW:(w.alloc (.cells #[J K 0,J K 0,J K 0,J K 0,J K 0,J K 0,J K 0,J K 0] 37))=W at*
 have au:W.1.size=w.1.size+1:=by rw[<-hW,zF]
 have HU:=ze (VU (h.later r) hc (by omega) az ai)
 have HW:=ze hW
 have B1:=ze b1
 have S:=ze au
 clear h b1 hW au
 have b7:Hid (∀(v:Value),True):=fun _=>trivial
 go_enter Tryz.func108,Tryz.ntmps108
 go_wp2_with fail
 rw[ud HW]
 refine(ud HU).mono ?_
 rintro e w1 ⟨rfl,D⟩
 have HT:=ze (zah ((ud H).later (r.trans (D.mono r.size))) hc aP az ai hu)
 have C:=ze D
 clear D
 cases aj:m.tight
 all_goals
  rw[aj]at HT
  first|have ab:=ze (zag aj)|have ab:=ze (zbu aj)
  go_wp2_with fail
  refine(ud HT).mono ?_
  rintro e f ⟨rfl,M⟩
  have z:Below w.1.size w f:=(r.trans ((ud C).mono r.size)).trans (M.mono (r.trans ((ud C).mono r.size)).size)
  have Y:=(ud H).later z
  obtain⟨r7,r8,r9,aZ,b0,b2,b3⟩:=Y.rest
  clear r8 r9 aZ b0 b3
  have aH:=ze Y
  have F:=Y.lt
  clear Y
  go_wp2_with fail
  go_region
  go_wp2_with fail
  first
   |(have ac:(f.alloc (vr m.now m.used 0 m.epoch ⟨0,0,0,0⟩)).drew.1[f.1.size]?=O (vr m.now m.used m.tightI m.epoch ⟨0,0,0,0⟩):=by rw[ud ab];exact zo f _
     have T:Below f.1.size f (f.alloc (vr m.now m.used 0 m.epoch ⟨0,0,0,0⟩)).drew:=((Below.refl _ _).alloc (E _) _).drew
     have av:f.1.size<(f.alloc (vr m.now m.used 0 m.epoch ⟨0,0,0,0⟩)).drew.1.size:=by show _<(f.alloc _).1.size;rw[zF];omega
     change Calls Tryz.prog _ _ (f.alloc (vr m.now m.used 0 m.epoch ⟨0,0,0,0⟩)).drew _
     generalize(f.alloc (vr m.now m.used 0 m.epoch ⟨0,0,0,0⟩)).drew=X at*)
   |(have ac:(f.alloc (vr m.now m.used 1 m.epoch ⟨0,0,0,0⟩)).drew.1[f.1.size]?=O (vr m.now m.used m.tightI m.epoch ⟨0,0,0,0⟩):=by rw[ud ab];exact zo f _
     have T:Below f.1.size f (f.alloc (vr m.now m.used 1 m.epoch ⟨0,0,0,0⟩)).drew:=((Below.refl _ _).alloc (E _) _).drew
     have av:f.1.size<(f.alloc (vr m.now m.used 1 m.epoch ⟨0,0,0,0⟩)).drew.1.size:=by show _<(f.alloc _).1.size;rw[zF];omega
     change Calls Tryz.prog _ _ (f.alloc (vr m.now m.used 1 m.epoch ⟨0,0,0,0⟩)).drew _
     generalize(f.alloc (vr m.now m.used 1 m.epoch ⟨0,0,0,0⟩)).drew=X at*)
  generalize hL:zS m.c m.nu=L at*
  have aq:=ze (vy ((ud aH).later T) hc (by omega) ai)
  rw[hL]at aq
  have aE:=(T.block w.1.size (by have:=z.size;have:=M.size;have:=(ud C).size;have:=ud S;omega)).trans ((M.block w.1.size (by have:=(ud C).size;have:=ud S;omega)).trans (((ud C).block w.1.size (by have:=ud S;omega)).trans (ud B1)))
  have b6:w.1.size<f.1.size:=by have:=M.size;have:=(ud C).size;have:=ud S;omega
  have aK:=ze aE
  have HL:=ze hL
  have aI:=ze ac
  clear aE ac hL M HU HT r7 b2
  refine(ud aq).mono ?_
  rintro e w3 ⟨v,rfl,ak,N⟩
  obtain⟨al,cl,aS⟩:=zq ak
  subst aS
  have ar:=ze ak
  have aF:=ze N
  have ax:Below w.1.size w X:=z.trans (T.mono z.size)
  have a0:Below w.1.size w w3:=ax.trans (N.mono ax.size)
  have b8:=N.size
  have aJ:=ze ((N.block w.1.size (by omega)).trans (ud aK))
  clear ak N
  go_wp2_with fail
  go_loopw [7,8,9] (fun y _ _ wr=>∃(i:Nat),i<=L.length/\y=J K i/\zlH w w3 m L f.1.size m.used m.tightI i wr) (fun y _ _ _=>L.length-(intOf y).toNat)
  case atStart=>exact⟨0,Nat.zero_le _,rfl,((ud aF).block _ av).trans (ud aI),zk.refl _ _⟩
  case round=>
   obtain⟨i,hi,rfl,l,hk⟩:=hrel
   have ae:Below w.1.size w wr:=a0.trans (hk.below a0.size (fun k e=>by rw[e];omega))
   have Y:=(ud H).later ae
   have aA:=Y.lt
   obtain⟨q7,q8,q9,aV,aW,aX,aY⟩:=Y.rest
   clear q7 q8 aW aX aY
   have aU:f.1.size<wr.1.size:=zd l
   have hv:=zi (ud ar) hk (fun k aO e=>by
    have:=((ud ar).lt k aO).1
    omega)
   have Z:=ze Y
   have HV:=ze hv
   have HK:=ze hk
   have aG:=ze ae
   clear Y hv hk ae
   by_cases aN:i<L.length
   ·obtain⟨s,hs⟩:=xr aN
    obtain⟨g,b5,aT,ba,U,x0,x1,x2⟩:=zbn (ud HV) hs
    injection aT with aB aC aD
    subst aB
    have P:=zgl m L i s hs
    have bb:(i:Int)<L.length:=by omega
    have aw:=zdU m (L.take i)
    rw[List.length_take,Nat.min_eq_left hi]at aw
    generalize zcm m (L.take i)=A at*
    obtain⟨a1,a2,a3,a4,a5,a6,a7,a8⟩:=aw
    have aa:=ze P
    have ao:=ze l
    clear hs P aC aD l
    have ah:Nonempty (zm wr.1.size wr):=zm.some _ _
    have af:=fun(u:zm wr.1.size wr) b o h=>u.cell b o h
    have an:=ze (fun(u:zm wr.1.size wr)=>xT B m.pub _ s u.1 (by omega) ((ud Z).later u.2).prow)
    have am:=ze (fun(w1:World) (D:Below wr.1.size wr w1) (u:zm w1.1.size w1)=>xT B m.gone _ s u.1 (by omega) ((ud Z).later (D.trans (u.2.mono D.size))).grow)
    rcases kL s m.gone with⟨hm,q⟩|⟨hm,q⟩
    all_goals rw[hm]at am
    have R:=ze (zbo (m:=m) (a:=A) q)
    clear hm q
    rotate_left
    by_cases d:s.t= -1
    have R:=ze (zbp (m:=m) (a:=A) q d)
    have aR:(s.t== -1)=true:=by simp[d]
    clear hm q d
    rotate_left
    have aR:(s.t== -1)=false:=by simp[d]
    rcases kL s m.pub with⟨V,F⟩|⟨V,F⟩
    all_goals try rw[V]at an
    have R:=ze (zdX (m:=m) (a:=A) q d F)
    clear hm q d V F
    rotate_left
    have R:=ze (zbq (m:=m) (a:=A) q d F)
    clear hm q d V F
    all_goals
     go_wp2_with fail
     refine zh wr.1.size (by kernel_rfl) (by kernel_rfl) ?_
     repeat(go_big_quiet_step (first|(go_at_call 159;exact Calls.later (E _) (ud an _))))
     refine wpQuiet_nil ?_
     rintro⟨w4,n⟩
     clear af ah
     have b4:=(n.cell (p:=⟨p,10,I⟩) aA).trans aV
     have y0:=(n.cell (p:=⟨g,i*3,I⟩) U).trans x0
     have y1:=(n.cell (p:=⟨g,i*3+1,I⟩) U).trans x1
     have y2:=(n.cell (p:=⟨g,i*3+2,I⟩) U).trans x2
     have ay:g<w4.1.size:=Q U n.size
     have bc:p<w4.1.size:=Q aA n.size
     have ah:Nonempty (zm w4.1.size w4):=zm.some _ _
     have af:=fun(u:zm w4.1.size w4) b o h=>u.cell b o h
     dsimp only
     go_wp2_with fail
     refine zh w4.1.size (by kernel_rfl) (by kernel_rfl) ?_
     repeat(go_big_quiet_step (first|(go_at_call 159;exact Calls.later (E _) (ud am w4 n _))))
     refine wpQuiet_nil ?_
     rintro⟨w5,ad⟩
     clear af ah
     have a9:Below wr.1.size wr w5:=n.trans (ad.mono n.size)
     have z0:=(ad.cell (p:=⟨g,i*3,I⟩) ay).trans y0
     have b9:g<w5.1.size:=Q ay ad.size
     have G:=ze ((a9.block _ aU).trans (ud ao))
     have FK:=ze (qS (ud HK) a9)
     obtain⟨e0,e1,e2,e3,e4,e5,e6,e7,e8⟩:=zct (ud G)
     clear y0 y1 y2 x0 x1 x2 b4
     dsimp only
     go_wp2_with fail
     go_roundw
     case rel=>exact⟨i+1,by omega,by go_num,by rw[ud aa,ud R];first|exact st_7 (ud G) _|exact st_4 (ud G) _|exact st_6 (ud G) _|exact st_5 (ud G) _,zn (ud FK) rfl⟩
     case measure=>simp[intOf];omega
   ·have aM:i=L.length:=by omega
    rw[aM,List.take_length]at l
    obtain⟨e0,e1,e2,e3,e4,e5,e6,e7,-⟩:=zct l
    have qz:=(((ud HK).block w.1.size (by omega) (by omega)).trans (ud aJ))
    obtain⟨f0,f1,f2,f3,f4,f5,f6,f7,-⟩:=zc qz
    have ff:∀j,wr.frozen? ⟨w.1.size,j,I⟩=false:=fun j=>zD qz j
    have QZ:=ze qz
    clear qz l
    generalize hA:zcm m L=A at*
    have HA:=ze hA
    clear hA
    go_wp2_with fail
    have hf:=set8 (ud QZ) (J K m.now) (J K m.used) (J K m.tightI) (J K m.epoch) (J K A.held) (J K A.wait) (J K A.pub) (J K A.gone)
    refine bodyPost_ret (v:=.agg #[J K m.now,J K m.used,J K m.tightI,J K m.epoch,J K A.held,J K A.wait,J K A.pub,J K A.gone]) (results_cell_row Tryz.results108 _ _ w.1.size _ _ _ _ rfl hf Tryz.underlying37 rfl (by kernel_rfl)) rfl ⟨by rw[ud HL,ud HA],?_⟩
    refine(ud aG).trans ?_
    repeat(refine qe ?_ (E _))
    exact Below.refl _ _
end Go.Proofs.YtpbimdkclnekeaaGreat
