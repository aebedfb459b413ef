import Derived.Test.YtndhpgciopcncaaGreatDoorYRef2
open Nat renaming le_refl → I
open Go.RowKit.Below renaming refl → J
open Go.Value renaming int → O
open Go.IntKind renaming i64 → E
set_option maxHeartbeats 1000000
open Go.Proofs.Tryz
namespace Go.Proofs.YtndhpgciopcncaaGreatDoor
open Go.RowKit
theorem V6(s c b f ke d:Int)(a:Option Addr)(n cap:Nat)(w:World)(h:zag s c b f ke d n=false):
  Calls prog 75 #[.agg #[O E s,O E c,O E b,O E f,O E ke,O E d,.slice a n cap]] w fun e w'=>e=.returned (O E 1)/\Below w.1.size w w':=by
 cases g:inB s 1 4
 ·clear h
  go_enter func75,ntmps75
  go_wp2_with(go_at_call 136;refine(vI _ _ _ _).mono ?_;rintro e w' ⟨rfl,rfl⟩)
  go_ret
  exact⟨rfl,(J _ _).alloc (I _) _⟩
 cases i:inB c 1 100
 ·clear h
  go_enter func75,ntmps75
  go_wp2_with(go_at_call 136;refine(vI _ _ _ _).mono ?_;rintro e w' ⟨rfl,rfl⟩)
  go_ret
  exact⟨rfl,(J _ _).alloc (I _) _⟩
 cases j:inB b 0 100
 ·clear h
  go_enter func75,ntmps75
  go_wp2_with(go_at_call 136;refine(vI _ _ _ _).mono ?_;rintro e w' ⟨rfl,rfl⟩)
  go_ret
  exact⟨rfl,(J _ _).alloc (I _) _⟩
 cases k:inB f 1 50
 ·clear h
  go_enter func75,ntmps75
  go_wp2_with(go_at_call 136;refine(vI _ _ _ _).mono ?_;rintro e w' ⟨rfl,rfl⟩)
  go_ret
  exact⟨rfl,(J _ _).alloc (I _) _⟩
 cases l:inB ke 0 1000
 ·clear h
  go_enter func75,ntmps75
  go_wp2_with(go_at_call 136;refine(vI _ _ _ _).mono ?_;rintro e w' ⟨rfl,rfl⟩)
  go_ret
  exact⟨rfl,(J _ _).alloc (I _) _⟩
 cases m:inB d 1 400
 ·clear h
  go_enter func75,ntmps75
  go_wp2_with(go_at_call 136;refine(vI _ _ _ _).mono ?_;rintro e w' ⟨rfl,rfl⟩)
  go_ret
  exact⟨rfl,(J _ _).alloc (I _) _⟩
 cases o:inB (n:Int) 1 4
 ·clear h
  go_enter func75,ntmps75
  go_wp2_with(go_at_call 136;refine(vI _ _ _ _).mono ?_;rintro e w' ⟨rfl,rfl⟩)
  go_ret
  exact⟨rfl,(J _ _).alloc (I _) _⟩
 simp[zag,g,i,j,k,l,m,o]at h
theorem V7(s x v d ke z:Int)(a:Option Addr)(n cap:Nat)(F W K:Nat->Int)(w:World)(h:TS w a n F W K)(hh:zag s x v d ke z n=true):
  Calls prog 75 #[.agg #[O E s,O E x,O E v,O E d,O E ke,O E z,.slice a n cap]] w fun e w'=>e=.returned (O E (Zs (kq n (kL n F W K)&&kq n (zbk d F W))))/\Below w.1.size w w':=by
 simp only[zag,Bool.and_eq_true]at hh
 obtain⟨⟨⟨⟨⟨⟨e0,e1⟩,e2⟩,e3⟩,e4⟩,e5⟩,e6⟩:=hh
 have hn:n<=4:=by rw[qG]at e6;omega
 have a2:1<=d/\d<=1000:=by rw[qG]at e3;omega
 have P:Below w.1.size w (w.alloc (.cells #[O E s,O E x,O E v,O E d,O E ke,O E z,.slice a n cap] 27)):=(J _ _).alloc (I _) _
 go_enter func75,ntmps75
 go_wp2_with(go_at_call 136;refine(vI _ _ _ _).mono ?_;rintro e w' ⟨rfl,rfl⟩)
 go_loopw [2,10,11,12,13,14] (fun _ y _ _ _ _ wr=>∃(k:Nat),k<=n/\y=O E k/\kq k (kL n F W K)=true/\Below (w.1.size+1) (w.alloc (.cells #[O E s,O E x,O E v,O E d,O E ke,O E z,.slice a n cap] 27)) wr) (fun _ y _ _ _ _ _=>n-(intOf y).toNat)
 case atStart=>exact⟨0,Nat.zero_le _,rfl,Zm _,J _ _⟩
 case round=>
  obtain⟨k,hk,rfl,Q,B⟩:=hrel
  have D:Hid (kq k (kL n F W K)=true):=Q
  clear Q
  have l:Below w.1.size w wr:=P.trans (B.mono (by omega))
  have C:w.1.size<wr.1.size:=by have:=B.size;simp at this;omega
  obtain⟨_,c0,c1,c2,c3,c4,c5,S⟩:=(CF.made w 27 (0,0) s x v d ke z a n cap).below B (by omega)
  by_cases g:k<n
  ·have r:=h.below l
   obtain⟨b,M,rfl,G,R⟩:=h.below l (by omega)
   obtain⟨h1,X,h3⟩:=R k g
   have Y:(k:Int)<n:=by omega
   clear R
   cases f0:zP n F (n+1) k
   ·have A:Hid ((kq n (kL n F W K)&&kq n (zbk d F W))=false):=by show _=_;rw[xD _ _ k g (by simp[kL,f0])];rfl
    go_wp2_with(first|(go_at_call 136;refine(vI _ _ _ _).mono ?_;rintro e w' ⟨rfl,rfl⟩)|(go_at_call 137;refine(Zt s x v d ke z _ n cap F W K k g hn _ (r.below ((J _ _).alloc (I _) _))).mono ?_;rintro e m ⟨rfl,c⟩;have f:Below wr.1.size wr m:=((J _ _).alloc (I _) _).trans (c.mono (by simp));have t:∀o,m.cell? ⟨wr.1.size,o,none⟩=_:=(fun o=>(c.cell (p:=⟨wr.1.size,o,none⟩) (by simp)).trans (Qg _ _ _ _ _ _ rfl));have x1:=t 1;have x2:=t 2;clear t c))
    go_ret
    exact⟨ja (yC A.out).symm,l.trans (f.mono (by omega))⟩
   ·cases f1:inB (W k) 1 1000
    ·have A:Hid ((kq n (kL n F W K)&&kq n (zbk d F W))=false):=by show _=_;rw[xD _ _ k g (by simp[kL,f1])];rfl
     go_wp2_with(first|(go_at_call 136;refine(vI _ _ _ _).mono ?_;rintro e w' ⟨rfl,rfl⟩)|(go_at_call 137;refine(Zt s x v d ke z _ n cap F W K k g hn _ (r.below ((J _ _).alloc (I _) _))).mono ?_;rintro e m ⟨rfl,c⟩;have f:Below wr.1.size wr m:=((J _ _).alloc (I _) _).trans (c.mono (by simp));have t:∀o,m.cell? ⟨wr.1.size,o,none⟩=_:=(fun o=>(c.cell (p:=⟨wr.1.size,o,none⟩) (by simp)).trans (Qg _ _ _ _ _ _ rfl));have x1:=t 1;have x2:=t 2;clear t c))
     go_ret
     exact⟨ja (yC A.out).symm,l.trans (f.mono (by omega))⟩
    ·cases f2:inB (K k) 0 1000
     ·have A:Hid ((kq n (kL n F W K)&&kq n (zbk d F W))=false):=by show _=_;rw[xD _ _ k g (by simp[kL,f2])];rfl
      go_wp2_with(first|(go_at_call 136;refine(vI _ _ _ _).mono ?_;rintro e w' ⟨rfl,rfl⟩)|(go_at_call 137;refine(Zt s x v d ke z _ n cap F W K k g hn _ (r.below ((J _ _).alloc (I _) _))).mono ?_;rintro e m ⟨rfl,c⟩;have f:Below wr.1.size wr m:=((J _ _).alloc (I _) _).trans (c.mono (by simp));have t:∀o,m.cell? ⟨wr.1.size,o,none⟩=_:=(fun o=>(c.cell (p:=⟨wr.1.size,o,none⟩) (by simp)).trans (Qg _ _ _ _ _ _ rfl));have x1:=t 1;have x2:=t 2;clear t c))
      go_ret
      exact⟨ja (yC A.out).symm,l.trans (f.mono (by omega))⟩
     ·have A:Hid (kq (k+1) (kL n F W K)=true):=by
       show _=_
       rw[Zl,D.out];simp[kL,f0,f1,f2]
      go_wp2_with(first|(go_at_call 136;refine(vI _ _ _ _).mono ?_;rintro e w' ⟨rfl,rfl⟩)|(go_at_call 137;refine(Zt s x v d ke z _ n cap F W K k g hn _ (r.below ((J _ _).alloc (I _) _))).mono ?_;rintro e m ⟨rfl,c⟩;have f:Below wr.1.size wr m:=((J _ _).alloc (I _) _).trans (c.mono (by simp));have t:∀o,m.cell? ⟨wr.1.size,o,none⟩=_:=(fun o=>(c.cell (p:=⟨wr.1.size,o,none⟩) (by simp)).trans (Qg _ _ _ _ _ _ rfl));have x1:=t 1;have x2:=t 2;clear t c))
      go_roundw
      case rel=>exact⟨k+1,by omega,by go_num,A.out,B.trans (f.mono (by omega))⟩
      case measure=>simp[intOf];omega
  ·have e:k=n:=by omega
   subst e
   have hW:∀i,i<k->1<=W i/\W i<=1000:=fun i U=>by
    have:=(yS _ _).1 D.out i U;simp only[kL,Bool.and_eq_true,qG]at this;omega
   have hF:∀i,i<k-> -1<=F i/\F i<k:=fun i U=>by
    have:=(yS _ _).1 D.out i U;simp only[kL,Bool.and_eq_true]at this;exact jQ k F i U this.1.1
   have V:Hid (kq k (kL k F W K)=true):=D
   clear D
   go_wp2
   go_loopw [2,15,16] (fun _ y _ wr=>∃(j:Nat),j<=k/\y=O E j/\kq j (zbk d F W)=true/\Below (w.1.size+1) (w.alloc (.cells #[O E s,O E x,O E v,O E d,O E ke,O E z,.slice a k cap] 27)) wr) (fun _ y _ _=>k-(intOf y).toNat)
   case atStart=>exact⟨0,Nat.zero_le _,rfl,Zm _,B⟩
   case round=>
    clear B l C c0 c1 c2 c3 c4 c5 S
    obtain⟨j,hj,rfl,Q,B⟩:=hrel
    have D:Hid (kq j (zbk d F W)=true):=Q
    clear Q
    have l:Below w.1.size w wr:=P.trans (B.mono (by omega))
    have C:w.1.size<wr.1.size:=by have:=B.size;simp at this;omega
    obtain⟨_,c0,c1,c2,c3,c4,c5,S⟩:=(CF.made w 27 (0,0) s x v d ke z a k cap).below B (by omega)
    by_cases g:j<k
    ·have r:=h.below l
     obtain⟨b,M,rfl,G,R⟩:=h.below l (by omega)
     obtain⟨h1,X,h3⟩:=R j g
     have Y:(j:Int)<k:=by omega
     have T:=hF j g
     clear R
     have Z:1<=zY d W (F j)/\zY d W (F j)<=1000:=by
      unfold zY
      by_cases e:F j= -1
      ·rw[if_pos e];omega
      ·rw[if_neg e];exact hW _ (by omega)
     obtain⟨a0,a1⟩:=Z
     have a3:=hW j g
     by_cases N:W j%zY d W (F j)=0
     ·have hq:(W j%zY d W (F j) !=0)=false:=by simp[N]
      have A:Hid (kq (j+1) (zbk d F W)=true):=by
       show _=_
       rw[Zl,D.out];simp[zbk,N]
      clear N
      have L:Nonempty (zj wr.1.size wr):=zj.some _ _
      have H:=fun(u:zj wr.1.size wr) b o h=>u.cell b o h
      go_wp2
      refine ze wr.1.size (by kernel_rfl) (by kernel_rfl) ?_
      repeat(go_big_quiet_step ((go_at_call 138;exact Calls.later (I _) (kY s x v d ke z _ k cap F W K _ T.1 T.2 hn _ (r.below (Subtype.property _))))))
      refine wpQuiet_nil ?_
      rintro⟨m,f⟩
      clear H L
      obtain⟨q,_⟩:=zjE f
      have d6:m.cell? ⟨w.1.size,6,none⟩=_:=(q _ _ C).trans S
      have d2:m.cell? ⟨b,M+j*3+1,none⟩=_:=(q _ _ G).trans X
      clear q
      dsimp only
      go_wp2
      go_roundw
      case rel=>exact⟨j+1,by omega,by go_num,A.out,B.trans (f.mono (by omega))⟩
      case measure=>simp[intOf];omega
     ·have hq:(W j%zY d W (F j) !=0)=true:=by simp[N]
      have A:Hid ((kq k (kL k F W K)&&kq k (zbk d F W))=false):=by show _=_;rw[xD k (zbk d F W) j g (by simp[zbk,N])];simp
      clear N
      have L:Nonempty (zj wr.1.size wr):=zj.some _ _
      have H:=fun(u:zj wr.1.size wr) b o h=>u.cell b o h
      go_wp2
      refine ze wr.1.size (by kernel_rfl) (by kernel_rfl) ?_
      repeat(go_big_quiet_step ((go_at_call 138;exact Calls.later (I _) (kY s x v d ke z _ k cap F W K _ T.1 T.2 hn _ (r.below (Subtype.property _))))))
      refine wpQuiet_nil ?_
      rintro⟨m,f⟩
      clear H L
      obtain⟨q,_⟩:=zjE f
      have d6:m.cell? ⟨w.1.size,6,none⟩=_:=(q _ _ C).trans S
      have d2:m.cell? ⟨b,M+j*3+1,none⟩=_:=(q _ _ G).trans X
      clear q
      dsimp only
      go_wp2
      go_ret
      exact⟨ja (yC A.out).symm,l.trans (f.mono (by omega))⟩
    ·have e:j=k:=by omega
     subst e
     have HT:Hid ((kq j (kL j F W K)&&kq j (zbk d F W))=true):=by show _=_;rw[D.out,V.out];rfl
     go_wp2
     go_ret
     exact⟨ja (JZ HT.out).symm,l⟩
theorem Xy(s d c b ke f:Int)(a:Option Addr)(n cap:Nat)(F W K:Nat->Int)(w:World)(h:TS w a n F W K):
  Calls prog 75 #[.agg #[O E s,O E d,O E c,O E b,O E ke,O E f,.slice a n cap]] w fun e w'=>e=.returned (O E (Zs (xt s d c b ke f n F W K)))/\Below w.1.size w w':=by
 rw[zdg]
 cases g:zag s d c b ke f n
 ·rw[yC (by simp[Jd,g])]
  exact V6 s d c b ke f a n cap w g
 ·have e:Jd s d c b ke f n F W K=(kq n (kL n F W K)&&kq n (zbk b F W)):=by simp[Jd,g]
  rw[e]
  exact V7 s d c b ke f a n cap F W K w h g
end Go.Proofs.YtndhpgciopcncaaGreatDoor
