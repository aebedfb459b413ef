import Derived.Test.YtndhpgciopcncaaGreatDoorYRef2
open Go.Value (int)
open Go.IntKind (i64)
open Go.IntKind (i32)
set_option linter.unusedVariables false
set_option maxHeartbeats 1000000
namespace Go.Proofs.YtndhpgciopcncaaGreatDoor
open Go.RowKit
structure Ops where
 kd:Int
 on:Int
 a:Int
 b:Int
 c:Int
 v:Int
 te:Int
 tn:Int
 fs:Int
 fe:Int
 fb:Int
 fw:Int
 fk:Int
 fq:Int
 fa:Option Addr
 fn:Nat
 fc:Nat
abbrev Ops.cells(o:Ops):Array Value:=#[int i64 o.kd,int i64 o.on,int i64 o.a,int i64 o.b,int i64 o.c,int i32 o.v,int i64 o.te,int i64 o.tn,int i64 o.fs,int i64 o.fe,int i64 o.fb,int i64 o.fw,int i64 o.fk,int i64 o.fq,.slice o.fa o.fn o.fc]
def Cf.end(c:Cf)(s:Sg):Int:=(s.wn+1)*c.wh s.t
def Cf.keep(c:Cf)(t:Int):Int:=if t= -1 then c.ke else c.K t.toNat
theorem Cf.ok.ends{c:Cf}(h:c.ok){s:Sg}(a: -1<=s.t)(b:s.t<c.n)(e:0<=s.wn)(f:s.wn<=100000):0<=c.end s/\c.end s<=100001000:=by
 obtain⟨g,d⟩:=h.wh a b
 unfold Cf.end
 refine⟨Int.mul_nonneg (by omega) (by omega),?_⟩
 have:(s.wn+1)*c.wh s.t<=(100000+1)*1000:=Int.mul_le_mul (by omega) d (by omega) (by omega)
 omega
theorem Cf.ok.keeps{c:Cf}(h:c.ok){t:Int}(a: -1<=t)(b:t<c.n):0<=c.keep t/\c.keep t<=1000:=by
 unfold Cf.keep
 split
 ·exact h.ke
 ·exact h.K _ (by omega)
theorem zae{B:Nat}{w:World}{p:Nat}{m:RM}{tv nv pv gv kv:Value}(h:zQ B w p m tv nv pv gv kv)(j:m.c.ok)(s:Sg)(d: -1<=s.t)(f:s.t<m.c.n)(x:0<=s.wn)(y:s.wn<=100000):
  Calls Tryz.prog 216 #[.pointer (some ⟨p,0,none⟩),.agg #[int i64 s.t,int i64 s.se,int i64 s.wn]] w fun e w'=>e=.returned (int i64 (m.c.end s))/\Below w.1.size w w':=by
 obtain⟨a,cap,A⟩:=zm h.trow
 subst A
 have U:=h.lt
 have z:=TS.of_owns h.trow
 obtain⟨N,O,P,Q,R,S,T⟩:=h.conf
 obtain⟨I,J⟩:=j.wh d f
 obtain⟨k,l⟩:=j.ends d f x y
 have r:=j.n4
 have G:Hid (zY m.c.wi m.c.W s.t=m.c.wh s.t):=rfl
 have HR:Hid (m.c.end s=(s.wn+1)*m.c.wh s.t):=rfl
 rw[ud HR]at k l
 have D:=zr w (.cells #[int i64 s.t,int i64 s.se,int i64 s.wn] 287)
 have E:=zG w (.cells #[int i64 s.t,int i64 s.se,int i64 s.wn] 287)
 have i:Below w.1.size w (w.alloc (.cells #[int i64 s.t,int i64 s.se,int i64 s.wn] 287)):=(Below.refl _ _).alloc (Nat.le_refl _) _
 obtain⟨-,-,C,-⟩:=zc D
 have H:=zd C
 have M:=zd E
 have v:Nonempty (zj (w.1.size+1) (w.alloc (.cells #[int i64 s.t,int i64 s.se,int i64 s.wn] 287))):=zj.some _ _
 have q:=fun(u:zj (w.1.size+1) (w.alloc (.cells #[int i64 s.t,int i64 s.se,int i64 s.wn] 287))) b o h=>u.cell b o h
 clear h D E C
 go_enter Tryz.func216,Tryz.ntmps216
 go_wp2_with fail
 refine ze (w.1.size+1) (by kernel_rfl) (by kernel_rfl) ?_
 repeat(go_big_quiet_step (first|(go_at_call 138;exact Calls.later (by simp) (kY _ _ _ _ _ _ _ _ cap m.c.F m.c.W m.c.K s.t d f r _ (z.below (i.trans (Below.mono (Subtype.property _) (by omega))))))))
 refine wpQuiet_nil ?_
 rintro⟨L,g⟩
 clear q v
 have C:L.cell? ⟨w.1.size,2,none⟩=some (int i64 s.wn):=(g.cell (p:=⟨w.1.size,2,none⟩) (show w.1.size<w.1.size+1 by omega)).trans (ud H)
 dsimp only
 rw[ud G]
 go_wp2_with fail
 go_ret
 exact⟨ja (ud HR).symm,i.trans (g.mono (by omega))⟩
theorem zbv{B:Nat}{w:World}{p:Nat}{m:RM}{tv nv pv gv kv:Value}(h:zQ B w p m tv nv pv gv kv)(k:m.c.ok)(t:Int)(q: -1<=t)(r:t<m.c.n):
  Calls Tryz.prog 300 #[.pointer (some ⟨p,0,none⟩),int i64 t] w fun e w'=>e=.returned (int i64 (m.c.keep t))/\w'=w:=by
 obtain⟨a,cap,g⟩:=zm h.trow
 subst g
 have G:=h.lt
 have f:=TS.of_owns h.trow
 obtain⟨u,v,x,y,z,A,C⟩:=h.conf
 have l:=k.n4
 by_cases e:t= -1
 ·subst e
  have HR:Hid (m.c.keep (-1)=m.c.ke):=rfl
  clear h
  go_enter Tryz.func300,Tryz.ntmps300
  go_wp2
  go_ret
  exact⟨ja (ud HR).symm,rfl⟩
 ·obtain⟨i,rfl⟩:=Int.eq_ofNat_of_zero_le (show 0<=t by omega)
  have HR:Hid (m.c.keep (i:Int)=m.c.K i):=by show _=_;unfold Cf.keep;rw[if_neg e];simp
  obtain⟨b,s,rfl,j,d⟩:=f (by omega)
  obtain⟨D,E,F⟩:=d i (by omega)
  have o:((i:Int)== -1)=false:=beq_eq_false_iff_ne.2 e
  clear h d e
  go_enter Tryz.func300,Tryz.ntmps300
  go_wp2
  go_ret
  exact⟨ja (ud HR).symm,rfl⟩
end Go.Proofs.YtndhpgciopcncaaGreatDoor
