import Derived.Test.YtndhpgciopcncaaGreatDoorUStp1
import Derived.Deep.RegionHeld3
open Go.Value renaming int → I
open Option renaming none → J
open Nat renaming lt_of_lt_of_le → K
open Go.RowKit.Below renaming refl → O
open Go.IntKind (i64)
open Go.IntKind (i32)
set_option linter.unusedVariables false
set_option maxRecDepth 20000
set_option maxHeartbeats 4000000
namespace Go.Proofs.YtndhpgciopcncaaGreatDoor
open Go.RowKit Go.Maps Go.Shelf
theorem Vr{w:World}{B p:Nat}{c:Cf}{ep:Int}{m:MS}{ns:List Nm}{j:Nat}(hs:vF w B p c ep m ns j)(M:c.ok)(hf:c.fits)(n:Int)(hn:1<=n/\n<=1000)(hl:m.now+n<=100000)(hj:j<=4398046511104):
  Calls Tryz.prog 17 #[.pointer (some ⟨p,0,J⟩),I i64 n] w fun e w'=>e=.returned (.bool true)/\∃m',qP c ep m ns m' ns/\m'.now=m.now+n/\vF w' B p c ep m' ns j/\Bel B w w':=by
 have ah:=hs.size
 obtain⟨⟨G,si,sd,a2,a4,a3,ax⟩,k,rfl,h,hk,f,ad,ae⟩:=hs
 dsimp only at*
 obtain⟨c0,_,_,_,_,_,c9,_,_,S⟩:=h.cells
 have Z:=h.lt
 have v:=f.ok.now
 obtain⟨ua,uc,F⟩:=zS h.urow
 rw[zP]at F
 dsimp only at F c0 c9 S Z
 subst F
 have HT:=zd (Zv h.mill M n hn ⟨v.1,hl⟩ (f.ok.binv M) f.ok.seg.inr (by have:=f.ok.seg.len400 M;omega) (fun T Q W=>by
  have U:=(Ye (ep:=ep) (c:=c) (L:=m.L) (num:=m.num) (show m.now<=m.now+n by omega) f.ok.td f.ok.nt f.ok.leas f.ok.nq f.ok.jobs W)
  have h8:=j4 (zy T) (zy m.TL) U.2.1 (fun x hx=>(U.2.2.2.2.2.2.2 x).1 hx)
  have h7:=f.ok.t800 M
  simp[zy]at h8
  omega))
 have hd:decide (100000<m.now+n)=false:=by simp;omega
 have aw:IntKind.i64.wrap (m.now+n)=m.now+n:=by rw[IntKind.wrap_i64];omega
 have H:=zd h
 have HO:=zd f
 obtain⟨Y,aq⟩:=hn
 obtain⟨au,av⟩:=v
 clear h f S
 go_enter Tryz.func17,Tryz.ntmps17
 go_wp2_with(first|(go_at_call 26;refine(ud HT).mono ?_;rintro e w1 ⟨rfl,a9,r,C,hM,hK,W,hq,hp⟩;have a:=(ud H).putMill hM hK;have V:=a.setNow (m.now+n);have d9:=(a.cells).2.2.2.2.2.2.1;dsimp only at d9;have df:=fun j=>zE a.head j;have z:=a.lt;dsimp only at z df;have P:=zd V;have HA:=zd (qP.ticked (c:=c) (ep:=ep) m ns n a9 C r Y hl W hq hp);have HU:=zd (((ud HO).tick M hf Y hl W hq hp).2 k);have HK:=zd (Bel.mill (ud H).mill hK ah (ud H).mlo);have a7:=zd a.head;clear hM hK W hq hp a V))
 have ag:B<=G:=(ud H).lo
 have a0:zI (w1.setCell ⟨G,9,J⟩ (I i64 (m.now+n))) B ⟨G,si,sd,a2,a4,a3,.slice ua k uc⟩ c ep {m with now:=m.now+n,TL:=C,QL:=r} (m.now+n) ns (vB ep k) (ZH (m.now+n) 0 (qt ep m.QL k)):=by rw[Kg];exact ud P
 have hbs:Bel B w (w1.setCell ⟨G,9,J⟩ (I i64 (m.now+n))):=(ud HK).trans (Bel.set (ud a7) (by decide) ag _)
 have a8:=zd a0
 have a6:=zd hbs
 have a1:=zP ep m.QL k
 have q:=zd a1
 clear a0 hbs d9 df z c0 c9 Z P HT a1
 go_loopw [6] (fun y wr=>∃(t:Nat),t<=k/\y=I i64 t/\zI wr B ⟨G,si,sd,a2,a4,a3,.slice ua k uc⟩ c ep {m with now:=m.now+n,TL:=C,QL:=r} (m.now+n) ns (vB ep k) (ZH (m.now+n) t (qt ep m.QL k))/\Bel B w wr) (fun y _=>k-(intOf y).toNat)
 case atStart=>exact⟨0,Nat.zero_le _,rfl,ud a8,ud a6⟩
 case round=>
  obtain⟨t,ar,rfl,i,hb⟩:=hrel
  obtain⟨-,-,-,-,-,-,e9,-,-,aa⟩:=i.cells
  dsimp only at e9 aa
  have af:=i.lt
  dsimp only at af
  have ap:(k:Int)<=4398046511104:=by omega
  by_cases d:t<k
  ·have al:(t:Int)<k:=by omega
   have b:=Yb (m.now+n) t (qt ep m.QL k)
   rw[ud q]at b
   obtain⟨g,gc,E,ao,ab,an⟩:=vs i.urow (j:=t) (by rw[b];exact d)
   rw[b]at E
   dsimp only at E
   cases E
   have D:(ZH (m.now+n) t (qt ep m.QL k))[t]?=some (kK m.QL ⟨ep,(t:Int)+1⟩):=by rw[zcp _ _ _ (by rw[ud q];exact d),yE _ _ _ _ d]
   have hu:(ZH (m.now+n) t (qt ep m.QL k))[t]'(by rw[b];exact d)=kK m.QL ⟨ep,(t:Int)+1⟩:=by have:=List.getElem?_eq_some_iff.1 D;exact this.2
   rw[hu]at ab
   have l:ZH (m.now+n) (t+1) (qt ep m.QL k)=(ZH (m.now+n) t (qt ep m.QL k)).set t (zaw (m.now+n) (kK m.QL ⟨ep,(t:Int)+1⟩)):=by
    rw[Kf _ _ _ (by rw[ud q];exact d)]
    congr 2
    have:=List.getElem?_eq_some_iff.1 (yE ep m.QL k t d)
    exact this.2
   have s:=zd l
   have a5:=zd D
   have o:=zd i
   have A:=i.setUnt (g:=g) (cap:=uc) (by rw[b]) t 0
   have R:=zd A
   have am:B<=g:=(i.urow.lt g rfl).1
   have N:=zd hb
   have ac:¬g=G:=zu i.head i.urow (by decide) g rfl
   have ai:¬G=g:=fun e=>ac e.symm
   clear i b l D A hu hb
   generalize kK m.QL ⟨ep,(t:Int)+1⟩=u at*
   by_cases X:u<=m.now+n
   ·go_wp2_with fail
    go_still (by kernel_rfl)
    go_wp2_with fail
    go_roundw
    case rel=>
     refine⟨t+1,by omega,by go_num,?_,((ud N).trans (Bel.unt (ud o).urow _)).drew⟩
     rw[ud s,JA X]
     exact(ud R).later (O _ _).drew
    case measure=>simp[intOf];omega
   ·have aj:decide (u<=m.now+n)=false:=by simpa using X
    go_wp2_with fail
    go_still (by kernel_rfl)
    go_wp2_with fail
    go_roundw
    case rel=>
     refine⟨t+1,by omega,by go_num,?_,(ud N).drew⟩
     rw[ud s,Kh (by omega),zac (ud a5)]
     exact(ud o).later (O _ _).drew
    case measure=>simp[intOf];omega
  ·have ak:decide ((t:Int)<k)=false:=by simp;omega
   have o:=zd i
   clear i
   go_wp2_with fail
   go_ret
   have ht:t=k:=by omega
   subst ht
   have U:=ud o
   have h8:ZH (m.now+n) t (qt ep m.QL t)=qt ep r t:=by
    have e1:=Jz (m.now+n) (qt ep m.QL t)
    rw[ud q]at e1
    rw[e1,ud HU]
   rw[h8]at U
   exact⟨rfl,_,ud HA,rfl,⟨_,t,rfl,U,hk,(ud HA).ok M hf (ud HO),ad,ae⟩,hb⟩
theorem vo{V:World}{g k j:Nat}{a b c d:Value}(h:¬k=g):((((V.setCell ⟨g,0,J⟩ a).setCell ⟨g,1,J⟩ b).setCell ⟨g,2,J⟩ c).setCell ⟨g,3,J⟩ d).cell? ⟨k,j,J⟩=V.cell? ⟨k,j,J⟩:=(zq h).trans ((zq h).trans ((zq h).trans (zq h)))
theorem zce{B:Nat}{w V:World}{g:Nat}(h:Below B w V)(e:B<=g)(a b c d:Value):Below B w ((((V.setCell ⟨g,0,J⟩ a).setCell ⟨g,1,J⟩ b).setCell ⟨g,2,J⟩ c).setCell ⟨g,3,J⟩ d):=(((h.setCell (p:=⟨g,0,J⟩) e a).setCell (p:=⟨g,1,J⟩) e b).setCell (p:=⟨g,2,J⟩) e c).setCell (p:=⟨g,3,J⟩) e d
def XZ(c:Cf)(m:MS)(x:Nm)(k:Nat):Int:=(xB c m.now m.Gl m.L k x.sr (x.tm/c.W k)).2
def wHit(c:Cf)(m:MS)(t:Int)(x:Nm)(k:Nat):Prop:=c.F k=t/\XZ c m x k≠0/\XZ c m x k≠12
def Y3(c:Cf)(m:MS)(t:Int)(x:Nm):Prop:=∃k,k<c.n/\wHit c m t x k
theorem QV{w:World}{B:Nat}{s:Shp}{c:Cf}{ep:Int}{m:MS}{sn:Int}{ns:List Nm}{ks:List Tok}{us:List Int}(h:zI w B s c ep m sn ns ks us)(hc:c.ok)(P:0<=m.now/\m.now<=100000)(t:Int)(ht: -1<=t/\t<c.n)(x:Nm)(hx:0<=x.tm/\x.tm<=100000)(Q:0<=x.sr/\x.sr<4):
  Calls Tryz.prog 86 #[.pointer (some ⟨s.p,0,J⟩),I i64 t,.agg #[I i64 x.sr,I i64 x.tm,I i32 x.val]] w fun e w'=>(∃b:Bool,e=.returned (.bool b)/\(b=true↔Y3 c m t x))/\Below w.1.size w w':=by
 have A:Below w.1.size w (w.alloc (.cells #[I i64 x.sr,I i64 x.tm,I i32 x.val] 87)):=(O _ _).alloc (Nat.le_refl _) _
 have q0:=zm w (.cells #[I i64 x.sr,I i64 x.tm,I i32 x.val] 87)
 have H:=zd (h.later A)
 have r:=zd A
 have Q0:=zd q0
 have au:=hc.n4
 have ai:=za q0
 obtain⟨b,l,cap,ah,a1,ag⟩:=(h.later A).tiers hc
 clear h A q0
 go_enter Tryz.func86,Tryz.ntmps86
 go_wp2_with fail
 generalize(w.alloc (.cells #[I i64 x.sr,I i64 x.tm,I i32 x.val] 87))=X at*
 go_loopw [7,8,9] (fun y _ _ wr=>∃k:Nat,k<=c.n/\y=I i64 k/\(∀j,j<k->¬wHit c m t x j)/\Below X.1.size X wr) (fun y _ _ _=>c.n-(intOf y).toNat)
 case atStart=>exact⟨0,Nat.zero_le _,rfl,fun j hj=>absurd hj (Nat.not_lt_zero _),O _ _⟩
 case round=>
  obtain⟨k,hk,rfl,a3,M⟩:=hrel
  have hS:=(ud H).later M
  obtain⟨c0,-,-,-,-,c8,-⟩:=hS.cells
  rw[ah]at c8
  have hl:=hS.lt
  have D:=(M.block _ ai).trans (ud Q0)
  obtain⟨n0,n1,-⟩:=zc D
  have f:=za D
  have av:(c.n:Int)<=4:=by omega
  have HS:=zd hS
  have HB:=zd M
  have v:=zd a3
  by_cases a2:k<c.n
  ·have N:(k:Int)<c.n:=by omega
   obtain⟨a7,a8,-⟩:=ag k a2
   have g0:=(M.cell (p:=⟨b,l+k*3,J⟩) a1).trans a7
   have g1:=(M.cell (p:=⟨b,l+k*3+1,J⟩) a1).trans a8
   have C:=K a1 M.size
   have ao:=hc.W k a2
   clear a7 a8 hS M D a3
   by_cases d:c.F k=t
   ·have af:(c.F k==t)=true:=by simpa using d
    have T:=zd d
    clear d
    go_wp2_with fail
    have ac:0<=x.tm/c.W k/\x.tm/c.W k<=100000:=⟨Int.ediv_nonneg hx.1 (by omega),by have:=Int.ediv_le_self (c.W k) hx.1;omega⟩
    have an:¬c.W k=0:=by omega
    have al:IntKind.i64.wrap (x.tm.tdiv (c.W k))=x.tm/c.W k:=by rw[Int.tdiv_eq_ediv_of_nonneg hx.1,IntKind.wrap_i64];omega
    have a0:Below wr.1.size wr (wr.alloc (.cells #[I i64 0,I i64 0,I i32 0,I i32 0] 115)).drew:=((O _ _).alloc (Nat.le_refl _) _).drew
    have aj:wr.1.size<(wr.alloc (.cells #[I i64 0,I i64 0,I i32 0,I i32 0] 115)).drew.1.size:=by show wr.1.size<(wr.alloc (.cells #[I i64 0,I i64 0,I i32 0,I i32 0] 115)).1.size;rw[zL];omega
    have ab:(wr.alloc (.cells #[I i64 0,I i64 0,I i32 0,I i32 0] 115)).drew.1[wr.1.size]?=some (.cells #[I i64 0,I i64 0,I i32 0,I i32 0] 115 (0,0)):=zm wr _
    have Z:=zd (yT ((ud HS).later a0).mill hc P k x.sr (x.tm/c.W k) ⟨by omega,N⟩ Q ac)
    have U:=zd (yT ((ud HS).later (O _ _).drew).mill hc P k x.sr (x.tm/c.W k) ⟨by omega,N⟩ Q ac)
    have a4:(xB c m.now m.Gl m.L k x.sr (x.tm/c.W k)).2=XZ c m x k:=rfl
    rw[a4]at Z U
    have ae:=zd a4
    clear a4
    generalize(xB c m.now m.Gl m.L k x.sr (x.tm/c.W k)).1.cnt=Q1 at*
    generalize(xB c m.now m.Gl m.L k x.sr (x.tm/c.W k)).1.sum=Q2 at*
    generalize(xB c m.now m.Gl m.L k x.sr (x.tm/c.W k)).1.mn=Q3 at*
    generalize(xB c m.now m.Gl m.L k x.sr (x.tm/c.W k)).1.mx=Q4 at*
    have R:=zd a0
    have a6:=zd ab
    have ay:¬s.p=wr.1.size:=by omega
    have am:¬w.1.size=wr.1.size:=by omega
    have ap:¬b=wr.1.size:=by omega
    obtain⟨aA,aB⟩:=hx
    clear a0 ab ae
    rename_i K1 hK1
    refine(fun G:∀(z:Nat) (Y:World),Below wr.1.size wr Y->K1 ((?aa:Nat->Act) z) Y=>?main) ?hc
    case main=>
     have E:=zd G
     clear G
     go_region_held3 (fun w'=>w'.cell? ⟨s.p,0,J⟩=some (.pointer (some ⟨s.i.x,0,J⟩))/\w'.cell? ⟨w.1.size,0,J⟩=some (I i64 x.sr)/\w'.cell? ⟨w.1.size,1,J⟩=some (I i64 x.tm)/\w'.cell? ⟨s.p,8,J⟩=some (.slice (some ⟨b,l,J⟩) c.n cap)/\w'.cell? ⟨b,l+k*3+1,J⟩=some (I i64 (c.W k))) (first|go_keep|exact⟨(vo (by assumption)).trans (by assumption),(vo (by assumption)).trans (by assumption),(vo (by assumption)).trans (by assumption),(vo (by assumption)).trans (by assumption),(vo (by assumption)).trans (by assumption)⟩) (first
      |(go_at_call 57;(with_reducible refine(ud Z).mono ?_);rintro e V ⟨rfl,g⟩;have a:Below wr.1.size wr V:=(ud R).trans (g.mono (ud R).size);have a5:=(g.block wr.1.size aj).trans (ud a6);obtain⟨z0,z1,z2,z3,-⟩:=zc a5;have zf:=fun j=>zE a5 j;have v0:=(a.cell (p:=⟨s.p,0,J⟩) hl).trans c0;have v1:=(a.cell (p:=⟨w.1.size,0,J⟩) f).trans n0;have v2:=(a.cell (p:=⟨w.1.size,1,J⟩) f).trans n1;have v3:=(a.cell (p:=⟨s.p,8,J⟩) hl).trans c8;have v4:=(a.cell (p:=⟨b,l+k*3+1,J⟩) C).trans g1;have vl:=K hl a.size;have vq:=K f a.size;have vb:=K C a.size;have u:=zd a;clear a g a5)
      |(go_at_call 57;(with_reducible refine(ud U).mono ?_);rintro e V ⟨rfl,g⟩;have a:Below wr.1.size wr V:=Qu g;have v0:=(a.cell (p:=⟨s.p,0,J⟩) hl).trans c0;have v1:=(a.cell (p:=⟨w.1.size,0,J⟩) f).trans n0;have v2:=(a.cell (p:=⟨w.1.size,1,J⟩) f).trans n1;have v3:=(a.cell (p:=⟨s.p,8,J⟩) hl).trans c8;have v4:=(a.cell (p:=⟨b,l+k*3+1,J⟩) C).trans g1;have vl:=K hl a.size;have vq:=K f a.size;have vb:=K C a.size;have ax:¬s.p=V.1.size:=(by omega);have az:¬w.1.size=V.1.size:=(by omega);have ak:¬b=V.1.size:=(by omega);have u:=zd a;clear a g))
     all_goals(first
      |(have hP:=(ud u).alloc (ud u).size (.cells #[I i64 Q1,I i64 Q2,I i32 Q3,I i32 Q4] 115);generalize(V.alloc (.cells #[I i64 Q1,I i64 Q2,I i32 Q3,I i32 Q4] 115))=Y at hP ⊢;generalize V.1.size=z;exact ud E z Y hP)
      |(have hP:=zce (ud u) (Nat.le_refl wr.1.size) (I i64 Q1) (I i64 Q2) (I i32 Q3) (I i32 Q4);generalize((((V.setCell ⟨wr.1.size,0,J⟩ (I i64 Q1)).setCell ⟨wr.1.size,1,J⟩ (I i64 Q2)).setCell ⟨wr.1.size,2,J⟩ (I i32 Q3)).setCell ⟨wr.1.size,3,J⟩ (I i32 Q4))=Y at hP ⊢;generalize wr.1.size=z;exact ud E z Y hP))
    case hc=>
     intro z Y a9
     have S:=zd ((ud HB).trans (a9.mono (ud HB).size))
     refine hK1 _ _ ?_
     clear a9 U Z R a6 c0 c8 n0 n1 g0 g1
     by_cases o:XZ c m x k=0
     ·have b0:(XZ c m x k==0)=true:=by simpa using o
      have HE:=zd o
      clear o
      go_wp2_with fail
      refine⟨⟨k+1,by omega,by go_num,fun j hj q=>?_,ud S⟩,by simp[intOf];omega⟩
      by_cases e:j=k
      ·subst e;exact q.2.1 (ud HE)
      ·exact ud v j (by omega) q
     ·have b0:(XZ c m x k==0)=false:=by simpa using o
      have ad:=zd o
      have ar:¬XZ c m x k=0:=o
      clear o
      by_cases o:XZ c m x k=12
      ·have HE:=zd o
       go_wp2_with fail
       refine⟨⟨k+1,by omega,by go_num,fun j hj q=>?_,ud S⟩,by simp[intOf];omega⟩
       by_cases e:j=k
       ·subst e;exact q.2.2 (ud HE)
       ·exact ud v j (by omega) q
      ·have b1:(XZ c m x k==12)=false:=by simpa using o
       have HE:=zd o
       go_wp2_with fail
       ·go_ret
        exact⟨⟨true,rfl,by simp only[true_iff];exact⟨k,a2,ud T,ud ad,ud HE⟩⟩,(ud r).trans ((ud S).mono (ud r).size)⟩
       all_goals
        rename_i hor
        simp[bne,b0,b1]at hor
   ·have af:(c.F k==t)=false:=by simpa using d
    have T:=zd d
    clear d
    go_wp2_with fail
    go_roundw
    case rel=>exact⟨k+1,by omega,by go_num,fun j hj q=>by
     by_cases e:j=k
     ·subst e;exact ud T q.1
     ·exact ud v j (by omega) q,ud HB⟩
    case measure=>simp[intOf];omega
  ·have aq:k=c.n:=by omega
   have aw:decide ((k:Int)<c.n)=false:=by simp;omega
   clear hS M D a3
   go_wp2_with fail
   go_ret
   exact⟨⟨false,rfl,by simp only[Bool.false_eq_true,false_iff];rintro⟨j,hj,q⟩;exact ud v j (by omega) q⟩,(ud r).trans ((ud HB).mono (ud r).size)⟩
end Go.Proofs.YtndhpgciopcncaaGreatDoor
