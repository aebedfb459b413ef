import Derived.Test.YtndhpgciopcncaaGreatDoorYRef5
open Go.Value renaming int → I
open Go.IntKind renaming i64 → J
open Option renaming none → K
open Go.IntKind (i32)
set_option linter.unusedVariables false
set_option maxRecDepth 8000
set_option maxHeartbeats 4000000
namespace Go.Proofs.YtndhpgciopcncaaGreatDoor
open Go.RowKit
theorem zeo(w:World)(g i:Nat)(v:Value):zk (fun k=>k=g) w (w.setCell ⟨g,i,K⟩ v):=zk.setCell (f:=fun k=>k=g) (zk.refl _ _) (p:=⟨g,i,K⟩) (fun _=>rfl) v
structure zjz(w:World)(n:Nat)(G:Nat->Ops)(la:Int)(Xp:Nat->World->Prop):Prop where
 low:∀k W,Xp k W->Below w.1.size w W
 looks:∀k W,k<=n->Xp k W->Calls Tryz.prog 35 #[.pointer (some ⟨w.1.size,0,K⟩)] W fun e w'=>e=.returned (.bool true)/\Below W.1.size W w'
 later:∀k W W',Xp k W->Below W.1.size W W'->Xp k W'
 next:∀k W,Xp k W->Xp (k+1) W
 start:∀W,Below w.1.size w W->W.1[w.1.size]?=some (.cells #[.slice K 0 0,.slice K 0 0] 77 (0,0))->Xp 0 W
 fst:∀W ta,Below w.1.size w W->W.1[w.1.size]?=some (.cells #[.slice K 0 0,.slice K 0 0] 77 (0,0))->W.1[ta]?=some (.cells #[I J (-1),I J 1,I J 0] 80 (0,0))->Calls Tryz.prog 33 #[.pointer (some ⟨w.1.size,0,K⟩),.agg #[I J 1,I J 1,I J 0,I J 1,I J 0,I J 9,.slice (some ⟨ta,0,K⟩) 1 1],I J (-1)] W fun e w'=>e=.returned (.bool true)/\Below w.1.size w w'/\∃pa pc,w'.1[w.1.size]?=some (.cells #[.slice pa 1 pc,.slice K 0 0] 77 (0,0))
 opens:∀k W,k<n->(G k).kd=1->Xp k W->Calls Tryz.prog 34 #[.pointer (some ⟨w.1.size,0,K⟩),.agg #[I J (G k).kd,I J (G k).on,I J (-1),I J (G k).b,I J (G k).c,I i32 (G k).v,I J (G k).te,I J (G k).tn,I J (G k).fs,I J (G k).fe,I J (G k).fb,I J (G k).fw,I J (G k).fk,I J (G k).fq,.slice (G k).fa (G k).fn (G k).fc]] W fun e w'=>e=.returned (.bool true)/\Xp (k+1) w'
 steps:∀k W,k<n->¬(G k).kd=1->(G k).kd<=la->Xp k W->Calls Tryz.prog 34 #[.pointer (some ⟨w.1.size,0,K⟩),.agg #[I J (G k).kd,I J (G k).on,I J (G k).a,I J (G k).b,I J (G k).c,I i32 (G k).v,I J (G k).te,I J (G k).tn,I J (G k).fs,I J (G k).fe,I J (G k).fb,I J (G k).fw,I J (G k).fk,I J (G k).fq,.slice (G k).fa (G k).fn (G k).fc]] W fun e w'=>e=.returned (.bool true)/\Xp (k+1) w'
theorem zeS(a:Option Addr)(n cap:Nat)(G:Nat->Ops)(P:Int)(ad:P<10)(w:World)(h:OS w a n G)(hn:n<=1099511627776)(Xp:Nat->World->Prop)(HK:zjz w n G P Xp):
  Calls Tryz.prog 11 #[.slice a n cap,I J P] w fun e w'=>e=.returned (.bool true)/\Below w.1.size w w':=by
 have e1:((w.alloc (.cells #[.slice K 0 0,.slice K 0 0] 77)).alloc (.cells #[I J (-1),I J 1,I J 0] 80)).1[w.1.size+1]?=some (.cells #[I J (-1),I J 1,I J 0] 80 (0,0)):=by
  have h:=zr (w.alloc (.cells #[.slice K 0 0,.slice K 0 0] 77)) (.cells #[I J (-1),I J 1,I J 0] 80)
  rw[zG]at h;exact h
 have b1:Below w.1.size w (w.alloc (.cells #[.slice K 0 0,.slice K 0 0] 77)):=(Below.refl _ _).alloc (Nat.le_refl _) _
 have b2:Below (w.1.size+1) (w.alloc (.cells #[.slice K 0 0,.slice K 0 0] 77)) ((w.alloc (.cells #[.slice K 0 0,.slice K 0 0] 77)).alloc (.cells #[I J (-1),I J 1,I J 0] 80)):=(Below.refl _ _).alloc (by rw[zG];omega) _
 have e2:=(b2.block w.1.size (by omega)).trans (zr w (.cells #[.slice K 0 0,.slice K 0 0] 77))
 have HF:=zd (HK.fst _ _ (b1.trans (b2.mono (by omega))) e2 e1)
 have m:=zd HK
 have u:=zd h
 clear e1 b1 b2 e2 HK h
 go_enter Tryz.func11,Tryz.ntmps11
 go_wp2_with fail
 refine(ud HF).mono ?_
 rintro e w1 ⟨rfl,z,pa,pc,q⟩
 obtain⟨k0,-⟩:=zc q
 have kf:∀j,w1.frozen? ⟨w.1.size,j,K⟩=false:=fun j=>zH q j
 have a1:=zb q
 have O:Xp 0 (w1.setCell ⟨w.1.size,0,K⟩ (.slice K 0 0)):=(ud m).start _ ((zk.below (f:=fun k=>k=w.1.size) (zeo w1 w.1.size 0 (.slice K 0 0)) z.size (fun k e=>by omega))|>z.trans) (xi (i:=0) q (.slice K 0 0))
 have Y:=zd O
 have a8:=zd z
 have a9:=zd q
 clear O z q HF
 go_wp2_with fail
 go_loopw [6,7,8] (fun x y _ wr=>∃(k:Nat),k<=n/\x=.bool true/\y=I J k/\Xp k wr) (fun _ y _ _=>n-(intOf y).toNat)
 case atStart=>exact⟨0,Nat.zero_le _,rfl,rfl,ud Y⟩
 case round=>
  obtain⟨k,hk,rfl,rfl,H⟩:=hrel
  have d:=(ud m).low k wr H
  by_cases F:k<n
  ·obtain⟨b,l,rfl,g,hc⟩:=ud u (by omega)
   obtain⟨x0,x1,x2,x3,x4,x5,x6,x7,x8,x9,Q,R,S,T,U⟩:=hc k F
   have V:=fun wz=>zd ((ud m).opens k wz F)
   have X:=fun wz=>zd ((ud m).steps k wz F)
   generalize G k=o at*
   have y0:=(d.cell (p:=⟨b,l+k*15,K⟩) g).trans x0
   have y1:=(d.cell (p:=⟨b,l+k*15+1,K⟩) g).trans x1
   have y2:=(d.cell (p:=⟨b,l+k*15+2,K⟩) g).trans x2
   have y3:=(d.cell (p:=⟨b,l+k*15+3,K⟩) g).trans x3
   have y4:=(d.cell (p:=⟨b,l+k*15+4,K⟩) g).trans x4
   have y5:=(d.cell (p:=⟨b,l+k*15+5,K⟩) g).trans x5
   have y6:=(d.cell (p:=⟨b,l+k*15+6,K⟩) g).trans x6
   have y7:=(d.cell (p:=⟨b,l+k*15+7,K⟩) g).trans x7
   have y8:=(d.cell (p:=⟨b,l+k*15+8,K⟩) g).trans x8
   have y9:=(d.cell (p:=⟨b,l+k*15+9,K⟩) g).trans x9
   have aj:=(d.cell (p:=⟨b,l+k*15+10,K⟩) g).trans Q
   have ak:=(d.cell (p:=⟨b,l+k*15+11,K⟩) g).trans R
   have al:=(d.cell (p:=⟨b,l+k*15+12,K⟩) g).trans S
   have am:=(d.cell (p:=⟨b,l+k*15+13,K⟩) g).trans T
   have an:=(d.cell (p:=⟨b,l+k*15+14,K⟩) g).trans U
   have ac:(k:Int)<n:=by omega
   have D:=(Below.refl wr.1.size wr).alloc (Nat.le_refl _) (.cells #[I J o.kd,I J o.on,I J o.a,I J o.b,I J o.c,I i32 o.v,I J o.te,I J o.tn,I J o.fs,I J o.fe,I J o.fb,I J o.fw,I J o.fk,I J o.fq,.slice o.fa o.fn o.fc] 82)
   have A:=zr wr (.cells #[I J o.kd,I J o.on,I J o.a,I J o.b,I J o.c,I i32 o.v,I J o.te,I J o.tn,I J o.fs,I J o.fe,I J o.fb,I J o.fw,I J o.fk,I J o.fq,.slice o.fa o.fn o.fc] 82)
   obtain⟨z0,z1,z2,z3,z4,z5,z6,z7,z8,z9,ao,z11,ap,aq,ar,-⟩:=zc A
   have s:=(ud m).later k wr _ H D
   have t:=zd s
   have L:=zd D
   clear hc x0 x1 x2 x3 x4 x5 x6 x7 x8 x9 Q R S T U s D k0 kf a1
   by_cases ab:P<o.kd
   ·have HN:=zd ((ud m).next k _ (ud t))
    clear H d V X u m
    go_wp2_with fail
    go_roundw
    case rel=>exact⟨k+1,by omega,rfl,by go_num,ud HN⟩
    case measure=>simp[intOf];omega
   ·have N:=fun W hh=>zd ((ud m).looks (k+1) W (by omega) hh)
    have M:=fun W W' hh hl=>zd ((ud m).later (k+1) W W' hh hl)
    by_cases E:o.kd=1
    ·have aa:=zH A
     have s:=(ud m).later k wr _ H ((Below.refl wr.1.size wr).alloc (Nat.le_refl _) (.cells #[I J o.kd,I J o.on,I J (-1),I J o.b,I J o.c,I i32 o.v,I J o.te,I J o.tn,I J o.fs,I J o.fe,I J o.fb,I J o.fw,I J o.fk,I J o.fq,.slice o.fa o.fn o.fc] 82))
     have Z:=zd (ud (V _) E s)
     clear A H d V X u s t L
     obtain⟨kd,on,oa,ob,oc,ov,ah,ai,ag,a5,a4,a7,a3,a6,ae,af,a2⟩:=o
     dsimp only at*
     subst E
     go_wp2_with(first
      |(go_at_call 34;refine(ud Z).mono ?_;rintro e w5 ⟨rfl,r⟩)
      |(go_at_call 35;refine(ud (N _ r)).mono ?_;rintro e w6 ⟨rfl,C⟩))
     go_roundw
     case rel=>exact⟨k+1,by omega,rfl,by go_num,ud (M _ _ r C)⟩
     case measure=>simp[intOf];omega
    ·have B:o.kd<=P:=by omega
     have a0:=zd (ud (X _) E B (ud t))
     clear A H d V X u t L B
     go_wp2_with(first
      |(go_at_call 34;refine(ud a0).mono ?_;rintro e w5 ⟨rfl,r⟩)
      |(go_at_call 35;refine(ud (N _ r)).mono ?_;rintro e w6 ⟨rfl,C⟩))
     go_roundw
     case rel=>exact⟨k+1,by omega,rfl,by go_num,ud (M _ _ r C)⟩
     case measure=>simp[intOf];omega
  ·go_wp2
   go_ret
   exact⟨rfl,d⟩
end Go.Proofs.YtndhpgciopcncaaGreatDoor
