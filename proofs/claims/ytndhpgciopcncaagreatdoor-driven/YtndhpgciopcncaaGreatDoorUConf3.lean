import Derived.Test.YtndhpgciopcncaaGreatDoorUConf2
open Nat renaming le_refl → I
open Go.RowKit.Below renaming refl → J
open Go.Value (int)
open Go.IntKind (i64)
set_option maxHeartbeats 1000000
open Go.Proofs.Tryz
namespace Go.Proofs.YtndhpgciopcncaaGreatDoor
open Go.RowKit
theorem XL(s le la wi ke qu:Int)(a:Option Addr)(n cap:Nat)(F W K:Nat->Int)(w:World)(h:TS w a n F W K):
  Calls prog 125 #[.agg #[int i64 s,int i64 le,int i64 la,int i64 wi,int i64 ke,int i64 qu,.slice a n cap]] w fun e w'=>e=.returned (.bool (xU s le la wi ke qu n F W K))/\Below w.1.size w w':=by
 cases o:inB s 1 4
 ·have b:Hid (xU s le la wi ke qu n F W K=false):=by show _=_;simp[xU,o]
  go_enter func125,ntmps125
  go_wp2_with(go_at_call 92;refine(xF _ _ _ _).mono ?_;rintro e w' ⟨rfl,rfl⟩)
  go_ret
  exact⟨xH b.out.symm,(J _ _).alloc (I _) _⟩
 cases p:inB le 1 100
 ·have b:Hid (xU s le la wi ke qu n F W K=false):=by show _=_;simp[xU,p]
  go_enter func125,ntmps125
  go_wp2_with(go_at_call 92;refine(xF _ _ _ _).mono ?_;rintro e w' ⟨rfl,rfl⟩)
  go_ret
  exact⟨xH b.out.symm,(J _ _).alloc (I _) _⟩
 cases q:inB la 0 100
 ·have b:Hid (xU s le la wi ke qu n F W K=false):=by show _=_;simp[xU,q]
  go_enter func125,ntmps125
  go_wp2_with(go_at_call 92;refine(xF _ _ _ _).mono ?_;rintro e w' ⟨rfl,rfl⟩)
  go_ret
  exact⟨xH b.out.symm,(J _ _).alloc (I _) _⟩
 cases f:inB wi 1 50
 ·have b:Hid (xU s le la wi ke qu n F W K=false):=by show _=_;simp[xU,f]
  go_enter func125,ntmps125
  go_wp2_with(go_at_call 92;refine(xF _ _ _ _).mono ?_;rintro e w' ⟨rfl,rfl⟩)
  go_ret
  exact⟨xH b.out.symm,(J _ _).alloc (I _) _⟩
 cases r:inB ke 0 1000
 ·have b:Hid (xU s le la wi ke qu n F W K=false):=by show _=_;simp[xU,r]
  go_enter func125,ntmps125
  go_wp2_with(go_at_call 92;refine(xF _ _ _ _).mono ?_;rintro e w' ⟨rfl,rfl⟩)
  go_ret
  exact⟨xH b.out.symm,(J _ _).alloc (I _) _⟩
 cases t:inB qu 1 400
 ·have b:Hid (xU s le la wi ke qu n F W K=false):=by show _=_;simp[xU,t]
  go_enter func125,ntmps125
  go_wp2_with(go_at_call 92;refine(xF _ _ _ _).mono ?_;rintro e w' ⟨rfl,rfl⟩)
  go_ret
  exact⟨xH b.out.symm,(J _ _).alloc (I _) _⟩
 cases g:inB (n:Int) 1 4
 ·have b:Hid (xU s le la wi ke qu n F W K=false):=by show _=_;simp[xU,g]
  go_enter func125,ntmps125
  go_wp2_with(go_at_call 92;refine(xF _ _ _ _).mono ?_;rintro e w' ⟨rfl,rfl⟩)
  go_ret
  exact⟨xH b.out.symm,(J _ _).alloc (I _) _⟩
 have hn:n<=4:=by rw[kH]at g;omega
 have m:1<=wi/\wi<=1000:=by rw[kH]at f;omega
 have j:TS (w.alloc (.cells #[int i64 s,int i64 le,int i64 la,int i64 wi,int i64 ke,int i64 qu,.slice a n cap] 27)) a n F W K:=h.below ((J _ _).alloc (I _) _)
 cases d:X6 n (vU n F W K)
 ·have b:Hid (xU s le la wi ke qu n F W K=false):=by show _=_;simp[xU,d]
  go_enter func125,ntmps125
  go_wp2_with(first|(go_at_call 92;refine(xF _ _ _ _).mono ?_;rintro e w' ⟨rfl,rfl⟩)|(go_at_call 195;refine(Qv _ n cap F W K hn _ j).mono ?_;rintro e w' ⟨rfl,c⟩))
  go_ret
  exact⟨xH b.out.symm,((J _ _).alloc (I _) _).trans (c.mono (by simp))⟩
 ·have u:∀i,i<n-> -1<=F i/\F i<n:=fun i l=>by
   have:=(vX _ _).1 d i l;simp only[vU,Bool.and_eq_true,kH]at this;omega
  have v:∀i,i<n->1<=W i/\W i<=1000:=fun i l=>by
   have:=(vX _ _).1 d i l;simp only[vU,Bool.and_eq_true,kH]at this;omega
  have HR:Hid (xU s le la wi ke qu n F W K=X6 n (zbH n wi F W)):=by show _=_;simp[xU,o,p,q,f,r,t,g,d]
  go_enter func125,ntmps125
  go_wp2_with(first|(go_at_call 92;refine(xF _ _ _ _).mono ?_;rintro e w' ⟨rfl,rfl⟩)|(go_at_call 195;refine(Qv _ n cap F W K hn _ j).mono ?_;rintro e w' ⟨rfl,c⟩;obtain⟨_,x,y,z,A,B,C,D⟩:=(CF.made w 27 (0,0) s le la wi ke qu a n cap).below c (by simp))|(go_at_call 196;refine(zgZ s le la wi ke qu _ n cap F W K hn u m v _ (j.below c)).mono ?_;rintro e E ⟨rfl,k⟩))
  go_ret
  exact⟨xH HR.out.symm,(((J _ _).alloc (I _) _).trans (c.mono (by simp))).trans (k.mono (by have:=c.size;simp at this;omega))⟩
theorem Yu(s le la wi ke qu:Int)(a:Option Addr)(n cap:Nat)(F W K:Nat->Int)(w:World)(h:TS w a n F W K):
  Calls prog 65 #[.agg #[int i64 s,int i64 le,int i64 la,int i64 wi,int i64 ke,int i64 qu,.slice a n cap]] w fun e w'=>e=.returned (int i64 (zgd (xU s le la wi ke qu n F W K)))/\Below w.1.size w w':=by
 have b:TS (w.alloc (.cells #[int i64 s,int i64 le,int i64 la,int i64 wi,int i64 ke,int i64 qu,.slice a n cap] 27)) a n F W K:=h.below ((J _ _).alloc (I _) _)
 cases e:xU s le la wi ke qu n F W K
 all_goals
  go_enter func65,ntmps65
  go_wp2_with(go_at_call 125;refine(XL s le la wi ke qu _ n cap F W K _ b).mono ?_;rintro e w' ⟨rfl,c⟩)
  go_ret
  exact⟨rfl,((J _ _).alloc (I _) _).trans (c.mono (by simp))⟩
end Go.Proofs.YtndhpgciopcncaaGreatDoor
