import Derived.Test.YtpbimdkclnekeaaGreatVLater
open Nat renaming le_refl → I
open Go.RowKit.Below renaming refl → J
open Go.Value (int)
open Go.IntKind (i64)
set_option maxHeartbeats 1000000
namespace Go.Proofs.YtpbimdkclnekeaaGreat
open Go.RowKit
theorem zjk(s z x c ke A:Int)(a:Option Addr)(n cap:Nat)(F W K:Nat->Int)(hn:n<=4)(C:∀i,i<n-> -1<=F i/\F i<n)(X:1<=c/\c<=1000)(N:∀i,i<n->1<=W i/\W i<=1000)(w:World)(h:TS w a n F W K):
  Calls Tryz.prog 172 #[.agg #[int i64 s,int i64 z,int i64 x,int i64 c,int i64 ke,int i64 A,.slice a n cap]] w fun e w'=>e=.returned (.bool (kR n (zaq n c F W)))/\Below w.1.size w w':=by
 go_enter Tryz.func172,Tryz.ntmps172
 go_wp2
 go_loopw [2,3,4,8] (fun _ _ _ y wr=>∃(k:Nat),k<=n/\y=int i64 k/\kR k (zaq n c F W)=true/\Below (w.1.size+1) (w.alloc (.cells #[int i64 s,int i64 z,int i64 x,int i64 c,int i64 ke,int i64 A,.slice a n cap] 27)) wr) (fun _ _ _ y _=>n-(intOf y).toNat)
 case atStart=>exact⟨0,Nat.zero_le _,rfl,ZR _,J _ _⟩
 case round=>
  obtain⟨k,hk,rfl,O,D⟩:=hrel
  have L:Hid (kR k (zaq n c F W)=true):=O
  clear O
  have q:Below w.1.size w wr:=((J _ _).alloc (I _) _).trans (D.mono (by omega))
  have V:w.1.size<wr.1.size:=by have:=D.size;simp at this;omega
  by_cases d:k<n
  ·have E:=h.below q
   have G:=(CF.made w 27 (0,0) s z x c ke A a n cap).below D (by omega)
   obtain⟨_,c0,c1,c2,c3,c4,c5,c6⟩:=G
   have f:=E
   obtain⟨b,Z,rfl,S,P⟩:=E (by omega)
   obtain⟨h1,h2,h3⟩:=P k d
   have T:(k:Int)<n:=by omega
   have v:=C k d
   clear P h E
   have H:1<=xd c W (F k)/\xd c W (F k)<=1000:=by
    unfold xd
    by_cases e:F k= -1
    ·rw[if_pos e];omega
    ·rw[if_neg e];exact N _ (by omega)
   obtain⟨Q,R⟩:=H
   have Y:=N k d
   by_cases t:W k%xd c W (F k)=0
   ·have U:(W k%xd c W (F k) !=0)=false:=by simp[t]
    cases M:down F n k
    ·have B:Hid (kR n (zaq n c F W)=false):=xP _ _ k d (by simp[zaq,M])
     clear t
     have p:Nonempty (zm (wr.1.size+1) (wr.alloc (Obj.cells #[Value.int IntKind.i64 (F k),Value.int IntKind.i64 (W k),Value.int IntKind.i64 (K k)] 66))):=zm.some _ _
     have m:=fun(u:zm (wr.1.size+1) (wr.alloc (Obj.cells #[Value.int IntKind.i64 (F k),Value.int IntKind.i64 (W k),Value.int IntKind.i64 (K k)] 66))) b o h=>u.cell b o h
     go_wp2
     refine zh (wr.1.size+1) (by kernel_rfl) (by kernel_rfl) ?_
     repeat(go_big_quiet_step (first
      |(go_at_call 206;exact Calls.later (by simp) (ko s z x c ke A _ n cap F W K _ v.1 v.2 hn _ (f.below (((J _ _).alloc (I _) _).trans (Below.mono (Subtype.property _) (by omega))))))
      |(go_at_call 207;exact Calls.later_same (vB _ n cap F W K k d hn C _ (f.below (((J _ _).alloc (I _) _).trans (Below.mono (Subtype.property _) (by omega))))))))
     refine wpQuiet_nil ?_
     rintro⟨r,g⟩
     have j:Below (wr.1.size) wr r:=((J _ _).alloc (I _) _).trans (g.mono (by omega))
     have l:Below (w.1.size+1) wr r:=j.mono (by omega)
     clear m p
     dsimp only
     go_wp2
     go_ret
     exact⟨zL B.out.symm,q.trans (l.mono (by omega))⟩
    ·have B:Hid (kR (k+1) (zaq n c F W)=true):=by
      show _=_
      rw[ZQ,L.out];simp[zaq,t,M]
     clear t
     have p:Nonempty (zm (wr.1.size+1) (wr.alloc (Obj.cells #[Value.int IntKind.i64 (F k),Value.int IntKind.i64 (W k),Value.int IntKind.i64 (K k)] 66))):=zm.some _ _
     have m:=fun(u:zm (wr.1.size+1) (wr.alloc (Obj.cells #[Value.int IntKind.i64 (F k),Value.int IntKind.i64 (W k),Value.int IntKind.i64 (K k)] 66))) b o h=>u.cell b o h
     go_wp2
     refine zh (wr.1.size+1) (by kernel_rfl) (by kernel_rfl) ?_
     repeat(go_big_quiet_step (first
      |(go_at_call 206;exact Calls.later (by simp) (ko s z x c ke A _ n cap F W K _ v.1 v.2 hn _ (f.below (((J _ _).alloc (I _) _).trans (Below.mono (Subtype.property _) (by omega))))))
      |(go_at_call 207;exact Calls.later_same (vB _ n cap F W K k d hn C _ (f.below (((J _ _).alloc (I _) _).trans (Below.mono (Subtype.property _) (by omega))))))))
     refine wpQuiet_nil ?_
     rintro⟨r,g⟩
     have j:Below (wr.1.size) wr r:=((J _ _).alloc (I _) _).trans (g.mono (by omega))
     have l:Below (w.1.size+1) wr r:=j.mono (by omega)
     clear m p
     dsimp only
     go_wp2
     go_roundw
     case rel=>exact⟨k+1,by omega,by go_num,B.out,D.trans l⟩
     case measure=>simp[intOf];omega
   ·have U:(W k%xd c W (F k) !=0)=true:=by simp[t]
    have B:Hid (kR n (zaq n c F W)=false):=xP _ _ k d (by simp[zaq,t])
    clear t
    have p:Nonempty (zm (wr.1.size+1) (wr.alloc (Obj.cells #[Value.int IntKind.i64 (F k),Value.int IntKind.i64 (W k),Value.int IntKind.i64 (K k)] 66))):=zm.some _ _
    have m:=fun(u:zm (wr.1.size+1) (wr.alloc (Obj.cells #[Value.int IntKind.i64 (F k),Value.int IntKind.i64 (W k),Value.int IntKind.i64 (K k)] 66))) b o h=>u.cell b o h
    go_wp2
    refine zh (wr.1.size+1) (by kernel_rfl) (by kernel_rfl) ?_
    repeat(go_big_quiet_step (first
     |(go_at_call 206;exact Calls.later (by simp) (ko s z x c ke A _ n cap F W K _ v.1 v.2 hn _ (f.below (((J _ _).alloc (I _) _).trans (Below.mono (Subtype.property _) (by omega))))))
     |(go_at_call 207;exact Calls.later_same (vB _ n cap F W K k d hn C _ (f.below (((J _ _).alloc (I _) _).trans (Below.mono (Subtype.property _) (by omega))))))))
    refine wpQuiet_nil ?_
    rintro⟨r,g⟩
    have j:Below (wr.1.size) wr r:=((J _ _).alloc (I _) _).trans (g.mono (by omega))
    have l:Below (w.1.size+1) wr r:=j.mono (by omega)
    clear m p
    dsimp only
    go_wp2
    go_ret
    exact⟨zL B.out.symm,q.trans (l.mono (by omega))⟩
  ·have e:k=n:=by omega
   subst e
   go_wp2
   go_ret
   exact⟨zL L.out.symm,q⟩
end Go.Proofs.YtpbimdkclnekeaaGreat
