import Derived.Test.YtndhpgciopcncaaGreatDoorUStp1
import Derived.StillTactics
open Go.Value renaming int → I
open Go.IntKind renaming i64 → J
open Nat renaming le_trans → K
open Go.RowKit.Below renaming refl → O
open Option renaming none → E
open Option renaming some → Q
open Go renaming World → N
open Nat renaming le_refl → S
open Go.IntKind (i32)
set_option linter.unusedVariables false
set_option maxRecDepth 20000
set_option maxHeartbeats 8000000
open Go.Proofs.Tryz
namespace Go.Proofs.YtndhpgciopcncaaGreatDoor
open Go.RowKit Go.Maps Go.Shelf
def zep(w w':N)(B p:Nat)(c:Cf)(ep:Int)(m:MS)(ns:List Nm)(j:Nat):Prop:=∃m',qP c ep m ns m' ns/\vF w' B p c ep m' ns (j+1)/\Bel B w w'/\(m'.num=m.num\/m'.num=m.num+1)
theorem zcQ:(prog.info? 49).map (fun i=>(i.zero,i.size,i.bytes))=Q (Q (.agg #[I J 0,I J 0]),2,16):=by kernel_rfl
theorem zcP:(prog.info? 3).map (fun i=>(i.zero,i.size,i.bytes))=Q (Q (I J 0),1,8):=by kernel_rfl
theorem zfU{w:N}{B:Nat}{v:Value}{ep:Int}{k:Nat}(h:w.ownsRow B 49 2 v (vB ep k).length ((vB ep k).flatMap zbI)):w.ownsRow B 49 2 v k ((vB ep k).flatMap zbI):=by rw[zH]at h;exact h
theorem zfZ{w:N}{B:Nat}{v:Value}{ep:Int}{QL:List (Tok×Lse)}{k:Nat}(h:w.ownsRow B 3 1 v (qt ep QL k).length ((qt ep QL k).map (I J))):w.ownsRow B 3 1 v k ((qt ep QL k).map (I J)):=by rw[zP]at h;exact h
theorem Vp{w:N}{B p:Nat}{c:Cf}{ep:Int}{m:MS}{ns:List Nm}{j:Nat}(hs:vF w B p c ep m ns j)(hc:c.ok)(hf:c.fits)(aA:xh ep)(slot:Int)(av:0<=slot/\slot<c.s)(hj:j<4398046511104):
  Calls prog 40 #[.pointer (Q ⟨p,0,E⟩),I J slot] w fun e w'=>e=.returned (.bool true)/\zep w w' B p c ep m ns j:=by
 have u:=hs.size
 obtain⟨⟨Z,si,sd,ah,ai,b0,b1⟩,k,rfl,h,hk,ho,ao,aq⟩:=hs
 dsimp only at*
 obtain⟨ka,kc,ae⟩:=zS h.krow
 obtain⟨ua,uc,ag⟩:=zS h.urow
 rw[zH]at ae
 rw[zP]at ag
 dsimp only at ae ag
 subst ae
 subst ag
 have aw:B<=Z:=h.lo
 have aD:=hc.le
 have a1:=ho.ok.now
 have hu:=ho.ok.seg.u0 hc
 have F:=zd (XP h.mill hc slot av a1 ho.tsk (by have:=ho.ok.q800 hc;omega) ⟨by omega,by omega⟩ aA ho.qn ⟨hu.1,by omega⟩)
 rw[hk]at F
 obtain⟨c0,-,-,-,-,-,-,-,-,-⟩:=h.cells
 dsimp only at c0
 have au:=h.lt
 dsimp only at au
 have H:=zd h
 have HO:=zd ho
 have aQ:(k:Int)<=4398046511104:=by omega
 obtain⟨aT,aU⟩:=av
 obtain⟨aW,aX⟩:=a1
 obtain⟨aR,aS⟩:=aD
 clear h ho
 go_enter func40,ntmps40
 go_wp2_with fail
 refine(ud F).mono ?_
 rintro e V (⟨rfl,P,az⟩|⟨rfl,P,aC⟩|⟨a,aF,aB,rfl,hM,hK⟩)
 ·clear F
  go_wp2_with fail
  go_ret
  have M:=P.alloc P.size (.cells #[I J 0,I J 0,I J 0,I J 0,I J 0,I J 0,I J 0,I J 0,I J 0,I J 0,I J 0] 51)
  exact⟨rfl,m,qP.same m ns,vF.mono ⟨_,k,rfl,(ud H).later M,hk,ud HO,ao,aq⟩ (Nat.le_succ j),Bel.of M u,.inl rfl⟩
 ·clear F
  go_wp2_with fail
  go_ret
  have M:=P.alloc P.size (.cells #[I J 0,I J 0,I J 0,I J 0,I J 0,I J 0,I J 0,I J 0,I J 0,I J 0,I J 0] 51)
  exact⟨rfl,m,qP.same m ns,vF.mono ⟨_,k,rfl,(ud H).later M,hk,ud HO,ao,aq⟩ (Nat.le_succ j),Bel.of M u,.inl rfl⟩
 ·clear F
  have a8:zI V B ⟨Z,si,sd,ah,ai,.slice ka k kc,.slice ua k uc⟩ c ep {m with num:=(k:Int)+1,QL:=qq m.QL ⟨ep,(k:Int)+1⟩ ⟨a.2.kd,a.2.s,slot,m.now+c.le⟩} m.now ns (vB ep k) (qt ep m.QL k):=(ud H).putMill hM hK
  have hA:=(O V.1.size V).alloc (S _) (.cells #[I J a.2.kd,I J a.2.s.t,I J a.2.s.sr,I J a.2.s.wa,I J a.2.se,I J a.2.ti,I J a.2.rest,I J ep,I J ((k:Int)+1),I J slot,I J (m.now+c.le)] 51)
  have al:=a8.later hA
  have ab:Bel B w V:=Bel.mill (ud H).mill hK u (ud H).mlo
  have a3:=zd (ab.alloc (K u ab.size) (.cells #[I J a.2.kd,I J a.2.s.t,I J a.2.s.sr,I J a.2.s.wa,I J a.2.se,I J a.2.ti,I J a.2.rest,I J ep,I J ((k:Int)+1),I J slot,I J (m.now+c.le)] 51))
  have a4:=zd (zm V (.cells #[I J a.2.kd,I J a.2.s.t,I J a.2.s.sr,I J a.2.s.wa,I J a.2.se,I J a.2.ti,I J a.2.rest,I J ep,I J ((k:Int)+1),I J slot,I J (m.now+c.le)] 51))
  have ak:=zd al
  have a0:Hid (qP c ep m ns {m with num:=(k:Int)+1,QL:=qq m.QL ⟨ep,(k:Int)+1⟩ ⟨a.2.kd,a.2.s,slot,m.now+c.le⟩} ns):=by
   have:=qP.taken (c:=c) (ep:=ep) m ns a slot aF aB
   rw[hk]at this
   exact this
  have aL:Z<V.1.size:=a8.lt
  have ar:¬V.1.size=Z:=by omega
  have aK:¬Z=V.1.size:=by omega
  clear a8 al hA ab hM hK c0 au
  go_wp2_with fail
  generalize(V.alloc (.cells #[I J a.2.kd,I J a.2.s.t,I J a.2.s.sr,I J a.2.s.wa,I J a.2.se,I J a.2.ti,I J a.2.rest,I J ep,I J ((k:Int)+1),I J slot,I J (m.now+c.le)] 51))=Y at*
  generalize aP:V.1.size=jb at*
  go_loopw [7] (fun y wr=>∃(t:Nat),t<=k/\y=I J t/\Below Y.1.size Y wr) (fun y _=>k-(intOf y).toNat)
  case atStart=>exact⟨0,Nat.zero_le _,rfl,O _ _⟩
  case round=>
   obtain⟨t,aV,rfl,C⟩:=hrel
   have v:=(ud ak).later C
   have L:=(C.block _ (za (ud a4))).trans (ud a4)
   have a7:=(ud a3).trans (Bel.of C (K u (ud a3).size))
   obtain⟨-,-,x3,-,-,-,x9,-,ax,R⟩:=v.cells
   dsimp only at x3 x9 ax R
   have xl:=v.lt
   dsimp only at xl
   have xf:=fun j=>zE v.head j
   dsimp only at xf
   obtain⟨-,-,-,-,-,-,-,j7,j8,-⟩:=zc L
   have jl:=za L
   by_cases af:t<k
   ·have aI:(t:Int)<k:=by omega
    obtain⟨g,gc,ac,aO,am,an⟩:=yb v.krow (j:=t) (by rw[zH];exact af)
    rw[zH]at ac
    dsimp only at ac
    cases ac
    have x:(vB ep k)[t]'(by rw[zH];exact af)=⟨ep,(t:Int)+1⟩:=(List.getElem?_eq_some_iff.1 (ko ep k t af)).2
    rw[x]at am an
    dsimp only at am an
    have aJ:((t:Int)+1==(k:Int)+1)=false:=by simp;omega
    have aE:((t:Int)==(k:Int))=false:=by simp;omega
    have A:=zd C
    clear v L a7 C x
    go_wp2_with fail
    go_still (by kernel_rfl)
    go_wp2_with fail
    go_roundw
    case rel=>exact⟨t+1,by omega,by go_num,(ud A).drew⟩
    case measure=>simp[intOf];omega
   ·have aH:decide ((t:Int)<k)=false:=by simp;omega
    have W:=zd v
    have a5:=zd L
    have A:=zd a7
    have i:=zd v.krow
    clear v L a7 C ak a4 a3
    go_wp2_with fail
    rename_i K9 hK9
    refine(fun G:∀(g3 l:Nat) (T:N),Hid (zI T B ⟨Z,si,sd,ah,ai,.slice (Q ⟨g3,0,E⟩) (k+1) l,.slice ua k uc⟩ c ep {m with num:=(k:Int)+1,QL:=qq m.QL ⟨ep,(k:Int)+1⟩ ⟨a.2.kd,a.2.s,slot,m.now+c.le⟩} m.now ns (vB ep (k+1)) (qt ep m.QL k))->Hid (T.1[jb]?=Q (.cells #[I J a.2.kd,I J a.2.s.t,I J a.2.s.sr,I J a.2.s.wa,I J a.2.se,I J a.2.ti,I J a.2.rest,I J ep,I J ((k:Int)+1),I J slot,I J (m.now+c.le)] 51 (0,0)))->Hid (Bel B w T)->K9 ((?aa:Nat->Nat->Act) g3 l) T=>?main) ?hc
    case main=>
     go_region_law (refine kZ rfl (.tmp 48) (.tmp 51) 41 49 2 16 rfl underlying41 zcQ rfl (by decide) B (.slice ka k kc) k ((vB ep k).flatMap zbI) (by simp[Act.eval]) (je ((zfU (ud i)).alloc _)) wr.1.size [I J ep,I J ((k:Int)+1)] 49 (0,0) (by simp[Act.eval]) (jd wr _) rfl (by simp[Value.oneCell']) ?h63 ?hby ?hbs ?_;(case h63=>(simp only[maxLen];omega));(case hby=>omega);(case hbs=>exact K (K u (ud A).size) (kw _ _));intro g3 l w5 f d x ap;have z:zo (fun k'=>(Value.slice ka k kc).ownBlock=Q k') wr w5:=zo.grown ((zo.refl _ _).alloc _) (vn d) (fun k hk _=>hk);have r:=z.heap ((ud W).head) (fun e=>zu (ud W).head (ud i) (by decide) _ e rfl);obtain⟨-,-,-,-,-,-,-,-,-,-,-,aM,-⟩:=zc r;have df:=fun j=>zE r j;have dl:=za r;dsimp only at df dl;have D:=zd f;have o:=zd z;have a2:=zd x;clear f z r d x)
     all_goals
      have b:=ud W
      have f:w5.ownsRow B 49 2 (.slice (Q ⟨g3,0,E⟩) (k+1) l) (vB ep k++[(⟨ep,(k:Int)+1⟩:Tok)]).length ((vB ep k++[(⟨ep,(k:Int)+1⟩:Tok)]).flatMap zbI):=by
       rw[List.length_append,zH,List.flatMap_append]
       exact ud D
      have X:=b.setToks (ud o) f (fun q hq=>by
       have e:g3=q:=by simpa[Value.ownBlock]using hq
       subst e
       rcases ud a2 with h|h
       ·exact .inl h
       ·right;rw[h];exact kw _ _)
      rw[<-zdX]at X
      have a9:Bel B w w5:=(ud A).trans (Bel.row b.krow (by decide) (ud o) (K u (ud A).size))
      have ad:=(ud o).heap (ud a5) (fun e=>zu (ud a5) b.krow (by decide) _ e rfl)
      exact G g3 l _ (zd X) (zd ((Zt w5 Z 11 _).heap ad ar)) (zd (a9.trans (Bel.set ((ud o).heap b.head (fun e=>zu b.head b.krow (by decide) _ e rfl)) (by decide) aw _)))
    case hc=>
     intro g3 l T HS HJ HB
     refine hK9 _ _ ?_
     try dsimp only
     clear hK9 W a5 A i x3 x9 ax R xl xf j7 j8 jl
     obtain⟨-,-,x3,-,-,-,x9,-,-,R⟩:=(ud HS).cells
     dsimp only at x3 x9 R
     have xl:=(ud HS).lt
     dsimp only at xl
     have xf:=fun j=>zE (ud HS).head j
     dsimp only at xf
     have i:=zd (ud HS).urow
     have aY:IntKind.i64.wrap (m.now+c.le)=m.now+c.le:=by rw[IntKind.wrap_i64];omega
     go_wp2_with fail
     rename_i KA hKA
     refine(fun G:∀(g4 n:Nat) (T:N),Hid (zI T B ⟨Z,si,sd,ah,ai,.slice (Q ⟨g3,0,E⟩) (k+1) l,.slice (Q ⟨g4,0,E⟩) (k+1) n⟩ c ep {m with num:=(k:Int)+1,QL:=qq m.QL ⟨ep,(k:Int)+1⟩ ⟨a.2.kd,a.2.s,slot,m.now+c.le⟩} m.now ns (vB ep (k+1)) (qt ep m.QL k++[m.now+c.le]))->Hid (T.1[jb]?=Q (.cells #[I J a.2.kd,I J a.2.s.t,I J a.2.s.sr,I J a.2.s.wa,I J a.2.se,I J a.2.ti,I J a.2.rest,I J ep,I J ((k:Int)+1),I J slot,I J (m.now+c.le)] 51 (0,0)))->Hid (Bel B w T)->KA ((?bb:Nat->Nat->Act) g4 n) T=>?main2) ?hc2
     case main2=>
      go_region_law (refine kZ rfl (.tmp 59) (.tmp 70) 42 3 1 8 rfl underlying42 zcP rfl (by decide) B (.slice ua k uc) k ((qt ep m.QL k).map (I J)) (by simp[Act.eval]) (je ((zfZ (ud i)).alloc _)) T.1.size [I J (m.now+c.le)] 3 (0,0) (by simp[Act.eval]) (jd T _) rfl (by simp[Value.oneCell']) ?h63 ?hby ?hbs ?_;(case h63=>(simp only[maxLen];omega));(case hby=>omega);(case hbs=>exact K (K u (ud HB).size) (kw _ _));intro g4 n w5 f d x ap;have z:zo (fun k'=>(Value.slice ua k uc).ownBlock=Q k') T w5:=zo.grown ((zo.refl _ _).alloc _) (vn d) (fun k hk _=>hk);have r:=z.heap ((ud HS).head) (fun e=>zu (ud HS).head (ud i) (by decide) _ e rfl);obtain⟨-,-,-,d3,-,-,-,-,-,d9,-,-,aN,-⟩:=zc r;have df:=fun j=>zE r j;have dl:=za r;dsimp only at df dl;have D:=zd f;have o:=zd z;have a2:=zd x;clear f z r d x)
      all_goals
       have b:=ud HS
       have f:w5.ownsRow B 3 1 (.slice (Q ⟨g4,0,E⟩) (k+1) n) (qt ep m.QL k++[m.now+c.le]).length ((qt ep m.QL k++[m.now+c.le]).map (I J)):=by
        rw[List.length_append,zP,List.map_append]
        exact ud D
       have X:=b.setUnts (ud o) f (fun q hq=>by
        have e:g4=q:=by simpa[Value.ownBlock]using hq
        subst e
        rcases ud a2 with h|h
        ·exact .inl h
        ·right;rw[h];exact kw _ _)
       have a9:Bel B w w5:=(ud HB).trans (Bel.row b.urow (by decide) (ud o) (K u (ud HB).size))
       have ad:=(ud o).heap (ud HJ) (fun e=>zu (ud HJ) b.urow (by decide) _ e rfl)
       exact G g4 n _ (zd X) (zd ((Zt w5 Z 12 _).heap ad ar)) (zd (a9.trans (Bel.set ((ud o).heap b.head (fun e=>zu b.head b.urow (by decide) _ e rfl)) (by decide) aw _)))
     case hc2=>
      intro g4 n U a6 aj ay
      refine hKA _ _ ?_
      try dsimp only
      clear hKA HS HJ HB i x3 x9 R xl xf
      obtain⟨-,-,x3,-,-,-,x9,-,-,-⟩:=(ud a6).cells
      dsimp only at x3 x9
      have xl:=(ud a6).lt
      dsimp only at xl
      obtain⟨-,-,-,-,-,-,-,-,-,j9,aZ,-⟩:=zc (ud aj)
      have jl:=za (ud aj)
      go_wp2_with fail
      go_still (by kernel_rfl)
      go_wp2_with fail
      go_ret
      have b:=ud a6
      have aG:qt ep (qq m.QL ⟨ep,(k:Int)+1⟩ ⟨a.2.kd,a.2.s,slot,m.now+c.le⟩) (k+1)=qt ep m.QL k++[m.now+c.le]:=zfY (ud HO).ok.nq k _
      rw[<-aG]at b
      exact⟨rfl,_,ud a0,⟨_,k+1,rfl,b.later (O _ _).drew,by show(k:Int)+1=((k+1:Nat):Int);omega,(ud a0).ok hc hf (ud HO),by omega,by omega⟩,(ud ay).drew,.inr (by show(k:Int)+1=m.num+1;omega)⟩
def jD(w w':N)(B p:Nat)(c:Cf)(ep:Int)(m:MS)(ns:List Nm)(j:Nat):Prop:=∃m',qP c ep m ns m' ns/\vF w' B p c ep m' ns j/\Bel B w w'
def Y6(w:N)(B p:Nat)(c:Cf)(ep:Int)(m:MS)(ns:List Nm)(j k:Nat):Prop:=∃s:Shp,s.p=p/\zI w B s c ep m m.now ns (vB ep k) (qt ep m.QL k)/\m.num=k/\SOk c ep m ns.length/\k<=j/\ns.length<=j
theorem Y6.size{w:N}{B p:Nat}{c:Cf}{ep:Int}{m:MS}{ns:List Nm}{j k:Nat}(h:Y6 w B p c ep m ns j k):B<=w.1.size:=by
 obtain⟨s,rfl,a,_⟩:=h
 have:=a.lo;have:=a.lt;omega
theorem jU(X:N)(g i:Nat)(v:Value):(X.setCell ⟨g,i,E⟩ v).drew.1.size=X.1.size:=by
 have h:(X.setCell ⟨g,i,E⟩ v).1.size=X.1.size:=by simp[World.setCell]
 exact h
theorem Zr{X:N}{g i k:Nat}{v:Value}(h:¬k=g):(X.setCell ⟨g,i,E⟩ v).drew.1[k]?=X.1[k]?:=zF (w:=X) h
theorem Xl{X:N}{g i k j:Nat}{v:Value}(h:¬k=g):(X.setCell ⟨g,i,E⟩ v).drew.cell? ⟨k,j,E⟩=X.cell? ⟨k,j,E⟩:=World.cell?_of_block (a:=⟨k,j,E⟩) (Zr h)
theorem zdC{w:N}{B p:Nat}{c:Cf}{ep:Int}{m:MS}{ns:List Nm}{j k:Nat}(hs:Y6 w B p c ep m ns j k)(hc:c.ok)(hf:c.fits)(ay:xh ep)(kd a b v:Int)(i:Nat)(d:i<k)(r:Int)(aO:(k:Int)-1-r=i)(r0:0<=r/\r<k)(PK:∀W:N,Calls prog 31 #[I J a,I J k] W fun e w'=>e=.returned (I J r)/\w'=W)(hj:j<=4398046511104)(aj:kd=5)(ah:zQ m.QL ⟨ep,(i:Int)+1⟩=E):
  Calls prog 41 #[.pointer (Q ⟨p,0,E⟩),.agg #[I J kd,I J a,I J b,I i32 v]] w fun e w'=>e=.returned (.bool true)/\jD w w' B p c ep m ns j:=by
 have x:=hs.size
 obtain⟨⟨sp,si,sd,aS,aU,aT,aV⟩,rfl,h,hk,ho,aA,aB⟩:=hs
 dsimp only at*
 obtain⟨r0,r1⟩:=r0
 have aP:B<=sp:=h.lo
 have an:=ho.ok.seg.u0 hc
 have aG:=ho.ok.seg.len400 hc
 have P:Below w.1.size w (w.alloc (.cells #[I J kd,I J a,I J b,I i32 v] 33)):=(O _ _).alloc (S _) _
 have q0:=zm w (.cells #[I J kd,I J a,I J b,I i32 v] 33)
 have o:=h.later P
 obtain⟨g,gc,U,az,R,T⟩:=yb o.krow (j:=i) (by rw[zH];exact d)
 obtain⟨l,ax,t,ai,a0,aC⟩:=vs o.urow (j:=i) (by rw[zP];exact d)
 rw[zH]at U
 rw[zP]at t
 dsimp only at U t
 subst U
 subst t
 have s:(vB ep k)[i]'(by rw[zH];exact d)=⟨ep,(i:Int)+1⟩:=(List.getElem?_eq_some_iff.1 (ko ep k i d)).2
 have ae:(qt ep m.QL k)[i]'(by rw[zP];exact d)=kK m.QL ⟨ep,(i:Int)+1⟩:=(List.getElem?_eq_some_iff.1 (yE ep m.QL k i d)).2
 rw[s]at R T
 rw[ae]at a0
 dsimp only at R T
 have u:=(o.setUnt (g:=l) (cap:=ax) (by rw[zP]) i 0).later (O _ _).drew
 obtain⟨x0,-,-,-,-,-,-,-,ap,aq⟩:=o.cells
 dsimp only at x0 ap aq
 have xl:=o.lt
 dsimp only at xl
 obtain⟨o0,o1,-⟩:=zc q0
 have ol:=za q0
 have ak:¬l=sp:=zu o.head o.urow (by decide) l rfl
 have aH:¬sp=l:=fun e=>ak e.symm
 have al:¬l=g:=fun e=>xr o.urow o.krow (by decide) l rfl (by simp[Value.ownBlock,e])
 have aI:¬g=l:=fun e=>al e.symm
 have aN:w.1.size<(w.alloc (.cells #[I J kd,I J a,I J b,I i32 v] 33)).1.size:=ol
 have am:¬l=w.1.size:=fun e=>by have:=h.foot_lt l (.inr (.inr (.inr (.inr rfl))));omega
 have M:¬w.1.size=l:=fun e=>am e.symm
 have e1:IntKind.i64.wrap ((k:Int)-1)=(k:Int)-1:=by rw[IntKind.wrap_i64];omega
 have e2:IntKind.i64.wrap ((k:Int)-1-r)=i:=by rw[IntKind.wrap_i64];omega
 have aF:(i:Int)<k:=by omega
 have aK:((k:Int)==0)=false:=by simp;omega
 have H:=zd (qa u.mill hc ⟨an.1,by omega⟩ (by omega))
 have G:=zd u
 have Q0:=zd q0
 have ag:Bel B w (w.alloc (.cells #[I J kd,I J a,I J b,I i32 v] 33)):=Bel.of P x
 have ar:=zd ag
 have HX:=zd o
 have au:=fun W=>zd (PK W)
 have HO:=zd ho
 have aD:B<=l:=(o.urow.lt l rfl).1
 clear h o P q0 u s ae ag ho PK
 have aL:(kd==5)=true:=by simp[aj]
 have ao:kK m.QL ⟨ep,(i:Int)+1⟩=0:=MOk.unt_none ah
 rw[ao]at a0
 clear aj
 go_enter func41,ntmps41
 go_wp2_with fail
 generalize(w.alloc (.cells #[I J kd,I J a,I J b,I i32 v] 33))=X at*
 refine wp_region_still_lit (by kernel_rfl) (by kernel_rfl) ?_
 repeat still_step
 still_call (ud (au _))
 repeat still_step
 refine wpStill_nil ?_
 go_wp2_with fail
 refine(ud H).mono ?_
 rintro e C ⟨rfl,F⟩
 have A:=zd F
 have aR:w.1.size<C.1.size:=Nat.lt_of_lt_of_le ol (K (Nat.le_of_eq (jU X l i (I J 0)).symm) F.size)
 have p0:=(F.cell (p:=⟨w.1.size,0,E⟩) (by rw[jU];exact ol)).trans ((Xl (i:=i) (v:=I J 0) M).trans o0)
 clear F H
 go_wp2_with fail
 have n:=((ud G).later (ud A)).later ((O C.1.size C).alloc (S _) (.cells #[I J m.now,I J (zp m.L),I J (xv (xa (zp m.L) c.qu)),I J ep,I J (zg m.L 1),I J (zg m.L 2),I J (zg m.L 3),I J m.Gl.length] 37))
 have ab:Bel B w (C.alloc (.cells #[I J m.now,I J (zp m.L),I J (xv (xa (zp m.L) c.qu)),I J ep,I J (zg m.L 1),I J (zg m.L 2),I J (zg m.L 3),I J m.Gl.length] 37)):=by
  have k1:=(Bel.unt (i:=i) (ud HX).urow (I J 0)).drew
  have k2:=(ud ar).trans k1
  have k3:=k2.trans (Bel.of (ud A) (K x k2.size))
  exact k3.alloc (K x k3.size) _
 have ad:=zm C (.cells #[I J m.now,I J (zp m.L),I J (xv (xa (zp m.L) c.qu)),I J ep,I J (zg m.L 1),I J (zg m.L 2),I J (zg m.L 3),I J m.Gl.length] 37)
 have D:C.1[w.1.size]?=Q (.cells #[I J kd,I J a,I J b,I i32 v] 33 (0,0)):=((ud A).block _ (by rw[jU];exact ol)).trans ((Zr M).trans (ud Q0))
 have ac:=(Below.heap_alloc _ (.cells #[I J m.now,I J (zp m.L),I J (xv (xa (zp m.L) c.qu)),I J ep,I J (zg m.L 1),I J (zg m.L 2),I J (zg m.L 3),I J m.Gl.length] 37) _ (za D)).trans D
 have aM:¬w.1.size=C.1.size:=by have:=za D;omega
 clear o0 o1 p0 x0 ap aq R T a0 aC az ai xl D A G
 generalize(C.alloc (.cells #[I J m.now,I J (zp m.L),I J (xv (xa (zp m.L) c.qu)),I J ep,I J (zg m.L 1),I J (zg m.L 2),I J (zg m.L 3),I J m.Gl.length] 37))=Z at*
 generalize aQ:C.1.size=wb at*
 obtain⟨z0,-,-,-,-,-,-,-,z11,-⟩:=n.cells
 dsimp only at z0 z11
 obtain⟨gz,aJ,V,aE,t0,t1⟩:=yb n.krow (j:=i) (by rw[zH];exact d)
 rw[zH]at V
 dsimp only at V
 cases V
 have s:(vB ep k)[i]'(by rw[zH];exact d)=⟨ep,(i:Int)+1⟩:=(List.getElem?_eq_some_iff.1 (ko ep k i d)).2
 rw[s]at t0 t1
 dsimp only at t0 t1
 have zl:=n.lt
 dsimp only at zl
 have aw:=zd n
 have a6:=zd ab
 have a8:=zd ad
 have a7:=zd ac
 have a9:=(n.later (O _ _).drew).mill
 have HC:=zd (zgY a9 ⟨ep,(i:Int)+1⟩ ⟨ay,by unfold xh;dsimp only;omega⟩ ah)
 clear a9 n ab ad ac s
 refine xo 11 (by kernel_rfl) (by kernel_rfl) ?_
 simp only[List.take_succ_cons,List.take_zero,List.drop_succ_cons,List.drop_zero]
 repeat still_step
 refine wpStill_nil ?_
 go_wp2_with(first
  |(go_at_call 21;refine(ud HC).mono ?_;rintro e V2 ⟨rfl,af⟩;have z:Below Z.1.size Z V2:=Qu af;have q:=(ud aw).later z;have s0:=(q.cells).1;dsimp only at s0;have sl:=q.lt;dsimp only at sl;have a5:=zd ((z.block _ (za (ud a8))).trans (ud a8));have a3:=zd ((z.block _ (za (ud a7))).trans (ud a7));have a4:=zd (qa q.mill hc ⟨an.1,by omega⟩ (by omega));have av:=zd q;have a1:=zd ((ud a6).trans (Bel.of z (K x (ud a6).size)));clear af z q)
  |(go_at_call 15;refine(ud a4).mono ?_;rintro e V3 ⟨rfl,f⟩;have y:=(f.block _ (za (ud a5))).trans (ud a5);have Y:=(f.block _ (za (ud a3))).trans (ud a3);obtain⟨w0,w1,-⟩:=zc y;have w2:V3.cell? ⟨wb,2,E⟩=Q (I J (xv (xa (zp m.L) c.qu))):=(by rw[xD y];rfl);obtain⟨-,-,-,w3,w4,w5,w6,w7,-⟩:=zc y;have wl:=za y;obtain⟨p0,-⟩:=zc Y;have pl:=za Y;have a2:=zd f;clear f y Y))
 go_ret
 have f:=(ud a2).alloc (ud a2).size (.cells #[I J m.now,I J (zp m.L),I J (xv (xa (zp m.L) c.qu)),I J ep,I J (zg m.L 1),I J (zg m.L 2),I J (zg m.L 3),I J m.Gl.length] 37)
 have aa:=(ud av).later f
 have e0:(qt ep m.QL k).set i 0=qt ep m.QL k:=Vy k i ao
 rw[e0]at aa
 exact⟨rfl,m,qP.same m ns,⟨_,k,rfl,aa,hk,ud HO,aA,aB⟩,(ud a1).trans (Bel.of f (K x (ud a1).size))⟩
theorem zdB{w:N}{B p:Nat}{c:Cf}{ep:Int}{m:MS}{ns:List Nm}{j k:Nat}(hs:Y6 w B p c ep m ns j k)(hc:c.ok)(hf:c.fits)(ay:xh ep)(kd a b v:Int)(i:Nat)(d:i<k)(r:Int)(aO:(k:Int)-1-r=i)(r0:0<=r/\r<k)(PK:∀W:N,Calls prog 31 #[I J a,I J k] W fun e w'=>e=.returned (I J r)/\w'=W)(hj:j<=4398046511104)(aj:¬kd=5)(ah:zQ m.QL ⟨ep,(i:Int)+1⟩=E):
  Calls prog 41 #[.pointer (Q ⟨p,0,E⟩),.agg #[I J kd,I J a,I J b,I i32 v]] w fun e w'=>e=.returned (.bool true)/\jD w w' B p c ep m ns j:=by
 have x:=hs.size
 obtain⟨⟨sp,si,sd,aS,aU,aT,aV⟩,rfl,h,hk,ho,aA,aB⟩:=hs
 dsimp only at*
 obtain⟨r0,r1⟩:=r0
 have aP:B<=sp:=h.lo
 have an:=ho.ok.seg.u0 hc
 have aG:=ho.ok.seg.len400 hc
 have P:Below w.1.size w (w.alloc (.cells #[I J kd,I J a,I J b,I i32 v] 33)):=(O _ _).alloc (S _) _
 have q0:=zm w (.cells #[I J kd,I J a,I J b,I i32 v] 33)
 have o:=h.later P
 obtain⟨g,gc,U,az,R,T⟩:=yb o.krow (j:=i) (by rw[zH];exact d)
 obtain⟨l,ax,t,ai,a0,aC⟩:=vs o.urow (j:=i) (by rw[zP];exact d)
 rw[zH]at U
 rw[zP]at t
 dsimp only at U t
 subst U
 subst t
 have s:(vB ep k)[i]'(by rw[zH];exact d)=⟨ep,(i:Int)+1⟩:=(List.getElem?_eq_some_iff.1 (ko ep k i d)).2
 have ae:(qt ep m.QL k)[i]'(by rw[zP];exact d)=kK m.QL ⟨ep,(i:Int)+1⟩:=(List.getElem?_eq_some_iff.1 (yE ep m.QL k i d)).2
 rw[s]at R T
 rw[ae]at a0
 dsimp only at R T
 have u:=(o.setUnt (g:=l) (cap:=ax) (by rw[zP]) i 0).later (O _ _).drew
 obtain⟨x0,-,-,-,-,-,-,-,ap,aq⟩:=o.cells
 dsimp only at x0 ap aq
 have xl:=o.lt
 dsimp only at xl
 obtain⟨o0,o1,-⟩:=zc q0
 have ol:=za q0
 have ak:¬l=sp:=zu o.head o.urow (by decide) l rfl
 have aH:¬sp=l:=fun e=>ak e.symm
 have al:¬l=g:=fun e=>xr o.urow o.krow (by decide) l rfl (by simp[Value.ownBlock,e])
 have aI:¬g=l:=fun e=>al e.symm
 have aN:w.1.size<(w.alloc (.cells #[I J kd,I J a,I J b,I i32 v] 33)).1.size:=ol
 have am:¬l=w.1.size:=fun e=>by have:=h.foot_lt l (.inr (.inr (.inr (.inr rfl))));omega
 have M:¬w.1.size=l:=fun e=>am e.symm
 have e1:IntKind.i64.wrap ((k:Int)-1)=(k:Int)-1:=by rw[IntKind.wrap_i64];omega
 have e2:IntKind.i64.wrap ((k:Int)-1-r)=i:=by rw[IntKind.wrap_i64];omega
 have aF:(i:Int)<k:=by omega
 have aK:((k:Int)==0)=false:=by simp;omega
 have H:=zd (qa u.mill hc ⟨an.1,by omega⟩ (by omega))
 have G:=zd u
 have Q0:=zd q0
 have ag:Bel B w (w.alloc (.cells #[I J kd,I J a,I J b,I i32 v] 33)):=Bel.of P x
 have ar:=zd ag
 have HX:=zd o
 have au:=fun W=>zd (PK W)
 have HO:=zd ho
 have aD:B<=l:=(o.urow.lt l rfl).1
 clear h o P q0 u s ae ag ho PK
 have aL:(kd==5)=false:=by simp[aj]
 have ao:kK m.QL ⟨ep,(i:Int)+1⟩=0:=MOk.unt_none ah
 rw[ao]at a0
 clear aj
 go_enter func41,ntmps41
 go_wp2_with fail
 generalize(w.alloc (.cells #[I J kd,I J a,I J b,I i32 v] 33))=X at*
 refine wp_region_still_lit (by kernel_rfl) (by kernel_rfl) ?_
 repeat still_step
 still_call (ud (au _))
 repeat still_step
 refine wpStill_nil ?_
 go_wp2_with fail
 refine(ud H).mono ?_
 rintro e C ⟨rfl,F⟩
 have A:=zd F
 have aR:w.1.size<C.1.size:=Nat.lt_of_lt_of_le ol (K (Nat.le_of_eq (jU X l i (I J 0)).symm) F.size)
 have p0:=(F.cell (p:=⟨w.1.size,0,E⟩) (by rw[jU];exact ol)).trans ((Xl (i:=i) (v:=I J 0) M).trans o0)
 clear F H
 go_wp2_with fail
 have n:=((ud G).later (ud A)).later ((O C.1.size C).alloc (S _) (.cells #[I J m.now,I J (zp m.L),I J (xv (xa (zp m.L) c.qu)),I J ep,I J (zg m.L 1),I J (zg m.L 2),I J (zg m.L 3),I J m.Gl.length] 37))
 have ab:Bel B w (C.alloc (.cells #[I J m.now,I J (zp m.L),I J (xv (xa (zp m.L) c.qu)),I J ep,I J (zg m.L 1),I J (zg m.L 2),I J (zg m.L 3),I J m.Gl.length] 37)):=by
  have k1:=(Bel.unt (i:=i) (ud HX).urow (I J 0)).drew
  have k2:=(ud ar).trans k1
  have k3:=k2.trans (Bel.of (ud A) (K x k2.size))
  exact k3.alloc (K x k3.size) _
 have ad:=zm C (.cells #[I J m.now,I J (zp m.L),I J (xv (xa (zp m.L) c.qu)),I J ep,I J (zg m.L 1),I J (zg m.L 2),I J (zg m.L 3),I J m.Gl.length] 37)
 have D:C.1[w.1.size]?=Q (.cells #[I J kd,I J a,I J b,I i32 v] 33 (0,0)):=((ud A).block _ (by rw[jU];exact ol)).trans ((Zr M).trans (ud Q0))
 have ac:=(Below.heap_alloc _ (.cells #[I J m.now,I J (zp m.L),I J (xv (xa (zp m.L) c.qu)),I J ep,I J (zg m.L 1),I J (zg m.L 2),I J (zg m.L 3),I J m.Gl.length] 37) _ (za D)).trans D
 have aM:¬w.1.size=C.1.size:=by have:=za D;omega
 clear o0 o1 p0 x0 ap aq R T a0 aC az ai xl D A G
 generalize(C.alloc (.cells #[I J m.now,I J (zp m.L),I J (xv (xa (zp m.L) c.qu)),I J ep,I J (zg m.L 1),I J (zg m.L 2),I J (zg m.L 3),I J m.Gl.length] 37))=Z at*
 generalize aQ:C.1.size=wb at*
 obtain⟨z0,-,-,-,-,-,-,-,z11,-⟩:=n.cells
 dsimp only at z0 z11
 obtain⟨gz,aJ,V,aE,t0,t1⟩:=yb n.krow (j:=i) (by rw[zH];exact d)
 rw[zH]at V
 dsimp only at V
 cases V
 have s:(vB ep k)[i]'(by rw[zH];exact d)=⟨ep,(i:Int)+1⟩:=(List.getElem?_eq_some_iff.1 (ko ep k i d)).2
 rw[s]at t0 t1
 dsimp only at t0 t1
 have zl:=n.lt
 dsimp only at zl
 have aw:=zd n
 have a6:=zd ab
 have a8:=zd ad
 have a7:=zd ac
 have a9:=(n.later (O _ _).drew).mill
 have HC:=zd (zco a9 ⟨ep,(i:Int)+1⟩ ⟨ay,by unfold xh;dsimp only;omega⟩ ah)
 clear a9 n ab ad ac s
 refine xo 11 (by kernel_rfl) (by kernel_rfl) ?_
 simp only[List.take_succ_cons,List.take_zero,List.drop_succ_cons,List.drop_zero]
 repeat still_step
 refine wpStill_nil ?_
 go_wp2_with(first
  |(go_at_call 20;refine(ud HC).mono ?_;rintro e V2 ⟨rfl,af⟩;have z:Below Z.1.size Z V2:=Qu af;have q:=(ud aw).later z;have s0:=(q.cells).1;dsimp only at s0;have sl:=q.lt;dsimp only at sl;have a5:=zd ((z.block _ (za (ud a8))).trans (ud a8));have a3:=zd ((z.block _ (za (ud a7))).trans (ud a7));have a4:=zd (qa q.mill hc ⟨an.1,by omega⟩ (by omega));have av:=zd q;have a1:=zd ((ud a6).trans (Bel.of z (K x (ud a6).size)));clear af z q)
  |(go_at_call 15;refine(ud a4).mono ?_;rintro e V3 ⟨rfl,f⟩;have y:=(f.block _ (za (ud a5))).trans (ud a5);have Y:=(f.block _ (za (ud a3))).trans (ud a3);obtain⟨w0,w1,-⟩:=zc y;have w2:V3.cell? ⟨wb,2,E⟩=Q (I J (xv (xa (zp m.L) c.qu))):=(by rw[xD y];rfl);obtain⟨-,-,-,w3,w4,w5,w6,w7,-⟩:=zc y;have wl:=za y;obtain⟨p0,-⟩:=zc Y;have pl:=za Y;have a2:=zd f;clear f y Y))
 go_ret
 have f:=(ud a2).alloc (ud a2).size (.cells #[I J m.now,I J (zp m.L),I J (xv (xa (zp m.L) c.qu)),I J ep,I J (zg m.L 1),I J (zg m.L 2),I J (zg m.L 3),I J m.Gl.length] 37)
 have aa:=(ud av).later f
 have e0:(qt ep m.QL k).set i 0=qt ep m.QL k:=Vy k i ao
 rw[e0]at aa
 exact⟨rfl,m,qP.same m ns,⟨_,k,rfl,aa,hk,ud HO,aA,aB⟩,(ud a1).trans (Bel.of f (K x (ud a1).size))⟩
end Go.Proofs.YtndhpgciopcncaaGreatDoor
