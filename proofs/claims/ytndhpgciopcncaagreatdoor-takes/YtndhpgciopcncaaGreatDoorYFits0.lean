import Derived.Test.YtndhpgciopcncaaGreatDoorYOps0
open Go.Value renaming int → I
open Go.IntKind renaming i64 → J
open Option renaming some → O
open Option renaming none → E
open Go.IntKind renaming i32 → Q
open Go renaming World → U
open Go.RowKit renaming Below → Y
open Nat renaming le_refl → Z
open Nat renaming le_of_lt → S
open Go.RowKit.Below renaming refl → A
set_option linter.unusedVariables false
set_option maxRecDepth 20000
set_option maxHeartbeats 2000000
open Go.Proofs.Tryz
namespace Go.Proofs.YtndhpgciopcncaaGreatDoor
open Go.RowKit
def OS(w:U)(a:Option Addr)(n:Nat)(G:Nat->Ops):Prop:=
 0<n->∃b d,a=O ⟨b,d,E⟩/\b<w.1.size/\∀i,i<n->w.cell? ⟨b,d+i*15,E⟩=O (I J (G i).kd)/\w.cell? ⟨b,d+i*15+1,E⟩=O (I J (G i).on)/\w.cell? ⟨b,d+i*15+2,E⟩=O (I J (G i).a)/\w.cell? ⟨b,d+i*15+3,E⟩=O (I J (G i).b)/\w.cell? ⟨b,d+i*15+4,E⟩=O (I J (G i).c)/\w.cell? ⟨b,d+i*15+5,E⟩=O (I Q (G i).v)/\w.cell? ⟨b,d+i*15+6,E⟩=O (I J (G i).te)/\w.cell? ⟨b,d+i*15+7,E⟩=O (I J (G i).tn)/\w.cell? ⟨b,d+i*15+8,E⟩=O (I J (G i).fs)/\w.cell? ⟨b,d+i*15+9,E⟩=O (I J (G i).fe)/\w.cell? ⟨b,d+i*15+10,E⟩=O (I J (G i).fb)/\w.cell? ⟨b,d+i*15+11,E⟩=O (I J (G i).fw)/\w.cell? ⟨b,d+i*15+12,E⟩=O (I J (G i).fk)/\w.cell? ⟨b,d+i*15+13,E⟩=O (I J (G i).fq)/\w.cell? ⟨b,d+i*15+14,E⟩=O (.slice (G i).fa (G i).fn (G i).fc)
structure Ops.fits(o:Ops):Prop where
 on: -9223372036854775808<=o.on/\o.on<=9223372036854775807
 a: -9223372036854775808<=o.a/\o.a<=9223372036854775807
 v: -2147483648<=o.v/\o.v<=2147483647
 te: -9223372036854775808<=o.te/\o.te<=9223372036854775807
 tn: -9223372036854775808<=o.tn/\o.tn<=9223372036854775807
 size:24*(o.fn+1)<=281474976710656
theorem zeB(c:Int)(n:Nat)(hn:0<n):∃i:Nat,c%(n:Int)=i/\i<n:=by
 have a:=Int.emod_nonneg c (show(n:Int)≠0 by omega)
 have b:=Int.emod_lt_of_pos c (show(0:Int)<n by omega)
 exact⟨(c%(n:Int)).toNat,by omega,by omega⟩
theorem zeQ(c:Int)(n:Nat)(j: -9223372036854775808<=c/\c<=9223372036854775807)(hn:0<n):
  ∃i:Nat,i<n/\∀w:U,Calls prog 79 #[I J c,I J n] w fun e w'=>e=.returned (I J i)/\w'=w:=by
 have g:¬(n:Int)=0:=by omega
 by_cases h:c<0
 ·obtain⟨i,a,d⟩:=zeB (-(c+1)) n hn
  refine⟨i,d,fun w=>?_⟩
  have b:=zd a
  clear a
  go_enter func79,ntmps79
  go_wp2
  go_ret
  have f: -(c+1).tmod (n:Int)=(-(c+1))%(n:Int):=by rw[<-Int.neg_tmod,Int.tmod_eq_emod_of_nonneg (by omega)]
  exact⟨by show Ending.returned (I J (-(c+1).tmod (n:Int)))=_;rw[f,ud b],rfl⟩
 ·obtain⟨i,a,d⟩:=zeB c n hn
  refine⟨i,d,fun w=>?_⟩
  have b:=zd a
  clear a
  go_enter func79,ntmps79
  go_wp2
  go_ret
  exact⟨by show Ending.returned (I J (c%(n:Int)))=_;rw[ud b],rfl⟩
theorem Ja{w:U}{B:Nat}{e:TypeId}{g:Nat}{cap i b:Nat}{ps:List Nat}(h:w.ownsRow B e 1 (.slice (O ⟨g,0,E⟩) ps.length cap) ps.length (ps.map (fun q=> .pointer (O ⟨q,0,E⟩))))(a:ps[i]?=O b):w.cell? ⟨g,i,E⟩=O (.pointer (O ⟨b,0,E⟩)):=by
 have c:i<ps.length:=(List.getElem?_eq_some_iff.1 a).1
 rw[h.cellAt i (by simpa using c)]
 simp[a]
theorem zho{w:U}{wb:Nat}{cap:Nat}{a:Option Addr}{n:Value}(j:w.1[wb]?=O (.cells #[.slice a 0 cap,n] 77 (0,0)))(o:Ops)(f:Int)(p:¬f=1)(m:¬f=13):
  Calls prog 34 #[.pointer (O ⟨wb,0,E⟩),.agg #[I J f,I J o.on,I J o.a,I J o.b,I J o.c,I Q o.v,I J o.te,I J o.tn,I J o.fs,I J o.fe,I J o.fb,I J o.fw,I J o.fk,I J o.fq,.slice o.fa o.fn o.fc]] w fun e w'=>e=.returned (.bool true)/\Y w.1.size w w':=by
 have k:=zb j
 have d:Y w.1.size w (w.alloc (.cells #[I J f,I J o.on,I J o.a,I J o.b,I J o.c,I Q o.v,I J o.te,I J o.tn,I J o.fs,I J o.fe,I J o.fb,I J o.fw,I J o.fk,I J o.fq,.slice o.fa o.fn o.fc] 82)):=(A _ _).alloc (Z _) _
 have g:=zr w (.cells #[I J f,I J o.on,I J o.a,I J o.b,I J o.c,I Q o.v,I J o.te,I J o.tn,I J o.fs,I J o.fe,I J o.fb,I J o.fw,I J o.fk,I J o.fq,.slice o.fa o.fn o.fc] 82)
 have i:(w.alloc (.cells #[I J f,I J o.on,I J o.a,I J o.b,I J o.c,I Q o.v,I J o.te,I J o.tn,I J o.fs,I J o.fe,I J o.fb,I J o.fw,I J o.fk,I J o.fq,.slice o.fa o.fn o.fc] 82)).1.size=w.1.size+1:=zG w _
 have h:=(d.block wb k).trans j
 have l:=zd d
 obtain⟨z0,-⟩:=zc h
 obtain⟨q,-⟩:=zc g
 clear d g i h j
 go_enter func34,ntmps34
 go_wp2_with fail
 go_ret
 exact⟨rfl,ud l⟩
theorem zkH{B:Nat}{w:U}{wb:Nat}{pv lv:Value}{ps:List Nat}(hw:w.1[wb]?=O (.cells #[pv,lv] 77 (0,0)))(g:w.ownsRow B 134 1 pv ps.length (ps.map (fun q=> .pointer (O ⟨q,0,E⟩)))){i l:Nat}(k:ps[i]?=O l)(C:l<w.1.size)(y:w.cell? ⟨l,14,E⟩=O (.bool false))(o:Ops)(z:∀w:U,Calls prog 79 #[I J o.on,I J ps.length] w fun e w'=>e=.returned (I J i)/\w'=w)(R:U->Prop)
  (HA:∀w4,Y w.1.size w w4->Calls prog 80 #[.pointer (O ⟨l,0,E⟩),.agg #[I J 2,I J o.on,I J o.a,I J o.b,I J o.c,I Q o.v,I J o.te,I J o.tn,I J o.fs,I J o.fe,I J o.fb,I J o.fw,I J o.fk,I J o.fq,.slice o.fa o.fn o.fc]] w4 fun e w'=>e=.returned (.bool true)/\R w'):
  Calls prog 34 #[.pointer (O ⟨wb,0,E⟩),.agg #[I J 2,I J o.on,I J o.a,I J o.b,I J o.c,I Q o.v,I J o.te,I J o.tn,I J o.fs,I J o.fe,I J o.fb,I J o.fw,I J o.fk,I J o.fq,.slice o.fa o.fn o.fc]] w fun e w'=>e=.returned (.bool true)/\R w':=by
 obtain⟨pa,ac,rfl⟩:=zm g
 have P:i<ps.length:=(List.getElem?_eq_some_iff.1 k).1
 obtain⟨gb,aa,M,_,x⟩:=g.form (by omega)
 cases M
 have G:=zb hw
 have d:Y w.1.size w (w.alloc (.cells #[I J 2,I J o.on,I J o.a,I J o.b,I J o.c,I Q o.v,I J o.te,I J o.tn,I J o.fs,I J o.fe,I J o.fb,I J o.fw,I J o.fk,I J o.fq,.slice o.fa o.fn o.fc] 82)):=(A _ _).alloc (Z _) _
 have j:=zr w (.cells #[I J 2,I J o.on,I J o.a,I J o.b,I J o.c,I Q o.v,I J o.te,I J o.tn,I J o.fs,I J o.fe,I J o.fb,I J o.fw,I J o.fk,I J o.fq,.slice o.fa o.fn o.fc] 82)
 have D:(w.alloc (.cells #[I J 2,I J o.on,I J o.a,I J o.b,I J o.c,I Q o.v,I J o.te,I J o.tn,I J o.fs,I J o.fe,I J o.fb,I J o.fw,I J o.fk,I J o.fq,.slice o.fa o.fn o.fc] 82)).1.size=w.1.size+1:=zG w _
 have F:=(d.block wb G).trans hw
 have s:=Ja g k
 have L:=((d.cell (p:=⟨gb,i,E⟩) x)).trans s
 have t:=((d.cell (p:=⟨l,14,E⟩) C)).trans y
 have ak:(i:Int)<(ps.length:Int):=by omega
 have ab:¬(ps.length:Int)=0:=by omega
 have HB:=zd d
 have K:=fun W=>zd (z W)
 obtain⟨z0,-⟩:=zc F
 obtain⟨y0,y1,-⟩:=zc j
 have HL:=zd j
 have ad:Hid ((w.alloc (.cells #[I J 2,I J o.on,I J o.a,I J o.b,I J o.c,I Q o.v,I J o.te,I J o.tn,I J o.fs,I J o.fe,I J o.fb,I J o.fw,I J o.fk,I J o.fq,.slice o.fa o.fn o.fc] 82)).1.size=w.1.size+1):=D
 have m:=zd HA
 clear HA
 clear g j d D hw F z y s k P
 go_enter func34,ntmps34
 go_wp2_with fail
 have q1:wb<w.1.size+1:=by omega
 have q2:gb<w.1.size+1:=by omega
 have q3:l<w.1.size+1:=by omega
 have q4:w.1.size<w.1.size+1:=by omega
 clear G x C
 generalize(w.alloc (.cells #[I J 2,I J o.on,I J o.a,I J o.b,I J o.c,I Q o.v,I J o.te,I J o.tn,I J o.fs,I J o.fe,I J o.fb,I J o.fw,I J o.fk,I J o.fq,.slice o.fa o.fn o.fc] 82))=X at*
 generalize w.1.size+1=N at*
 have V:Nonempty (zj N X):=zj.some _ _
 have T:=fun(u:zj N X) b o h=>u.cell b o h
 refine ze N (by kernel_rfl) (by kernel_rfl) ?_
 repeat(go_big_quiet_step (first|(go_at_call 79;exact Calls.later_same (ud (K _)))))
 refine wpQuiet_nil ?_
 rintro⟨w1,f⟩
 clear T V
 have aj:=(f.cell (p:=⟨l,14,E⟩) q3).trans t
 have n:=(f.block w.1.size q4).trans (ud HL)
 have r:Y w.1.size w w1:=(ud HB).trans (f.mono (S q4))
 obtain⟨a0,a1,a2,a3,a4,a5,a6,a7,a8,a9,ae,af,ag,ah,ai,-⟩:=zc n
 have H:=zd (ud m w1 r)
 dsimp only
 clear m n t L y0 y1 z0 f r q1 q2 q3 q4
 go_wp2_with(first|(go_at_call 80;refine(ud H).mono ?_;rintro e w' ⟨rfl,hR⟩)|fail)
 go_ret
 exact⟨rfl,hR⟩
theorem zkI{B:Nat}{w:U}{wb:Nat}{pv lv:Value}{ps:List Nat}(hw:w.1[wb]?=O (.cells #[pv,lv] 77 (0,0)))(g:w.ownsRow B 134 1 pv ps.length (ps.map (fun q=> .pointer (O ⟨q,0,E⟩)))){i l:Nat}(k:ps[i]?=O l)(C:l<w.1.size)(y:w.cell? ⟨l,14,E⟩=O (.bool false))(o:Ops)(z:∀w:U,Calls prog 79 #[I J o.on,I J ps.length] w fun e w'=>e=.returned (I J i)/\w'=w)(R:U->Prop)
  (HA:∀w4,Y w.1.size w w4->Calls prog 80 #[.pointer (O ⟨l,0,E⟩),.agg #[I J 3,I J o.on,I J o.a,I J o.b,I J o.c,I Q o.v,I J o.te,I J o.tn,I J o.fs,I J o.fe,I J o.fb,I J o.fw,I J o.fk,I J o.fq,.slice o.fa o.fn o.fc]] w4 fun e w'=>e=.returned (.bool true)/\R w'):
  Calls prog 34 #[.pointer (O ⟨wb,0,E⟩),.agg #[I J 3,I J o.on,I J o.a,I J o.b,I J o.c,I Q o.v,I J o.te,I J o.tn,I J o.fs,I J o.fe,I J o.fb,I J o.fw,I J o.fk,I J o.fq,.slice o.fa o.fn o.fc]] w fun e w'=>e=.returned (.bool true)/\R w':=by
 obtain⟨pa,ac,rfl⟩:=zm g
 have P:i<ps.length:=(List.getElem?_eq_some_iff.1 k).1
 obtain⟨gb,aa,M,_,x⟩:=g.form (by omega)
 cases M
 have G:=zb hw
 have d:Y w.1.size w (w.alloc (.cells #[I J 3,I J o.on,I J o.a,I J o.b,I J o.c,I Q o.v,I J o.te,I J o.tn,I J o.fs,I J o.fe,I J o.fb,I J o.fw,I J o.fk,I J o.fq,.slice o.fa o.fn o.fc] 82)):=(A _ _).alloc (Z _) _
 have j:=zr w (.cells #[I J 3,I J o.on,I J o.a,I J o.b,I J o.c,I Q o.v,I J o.te,I J o.tn,I J o.fs,I J o.fe,I J o.fb,I J o.fw,I J o.fk,I J o.fq,.slice o.fa o.fn o.fc] 82)
 have D:(w.alloc (.cells #[I J 3,I J o.on,I J o.a,I J o.b,I J o.c,I Q o.v,I J o.te,I J o.tn,I J o.fs,I J o.fe,I J o.fb,I J o.fw,I J o.fk,I J o.fq,.slice o.fa o.fn o.fc] 82)).1.size=w.1.size+1:=zG w _
 have F:=(d.block wb G).trans hw
 have s:=Ja g k
 have L:=((d.cell (p:=⟨gb,i,E⟩) x)).trans s
 have t:=((d.cell (p:=⟨l,14,E⟩) C)).trans y
 have ak:(i:Int)<(ps.length:Int):=by omega
 have ab:¬(ps.length:Int)=0:=by omega
 have HB:=zd d
 have K:=fun W=>zd (z W)
 obtain⟨z0,-⟩:=zc F
 obtain⟨y0,y1,-⟩:=zc j
 have HL:=zd j
 have ad:Hid ((w.alloc (.cells #[I J 3,I J o.on,I J o.a,I J o.b,I J o.c,I Q o.v,I J o.te,I J o.tn,I J o.fs,I J o.fe,I J o.fb,I J o.fw,I J o.fk,I J o.fq,.slice o.fa o.fn o.fc] 82)).1.size=w.1.size+1):=D
 have m:=zd HA
 clear HA
 clear g j d D hw F z y s k P
 go_enter func34,ntmps34
 go_wp2_with fail
 have q1:wb<w.1.size+1:=by omega
 have q2:gb<w.1.size+1:=by omega
 have q3:l<w.1.size+1:=by omega
 have q4:w.1.size<w.1.size+1:=by omega
 clear G x C
 generalize(w.alloc (.cells #[I J 3,I J o.on,I J o.a,I J o.b,I J o.c,I Q o.v,I J o.te,I J o.tn,I J o.fs,I J o.fe,I J o.fb,I J o.fw,I J o.fk,I J o.fq,.slice o.fa o.fn o.fc] 82))=X at*
 generalize w.1.size+1=N at*
 have V:Nonempty (zj N X):=zj.some _ _
 have T:=fun(u:zj N X) b o h=>u.cell b o h
 refine ze N (by kernel_rfl) (by kernel_rfl) ?_
 repeat(go_big_quiet_step (first|(go_at_call 79;exact Calls.later_same (ud (K _)))))
 refine wpQuiet_nil ?_
 rintro⟨w1,f⟩
 clear T V
 have aj:=(f.cell (p:=⟨l,14,E⟩) q3).trans t
 have n:=(f.block w.1.size q4).trans (ud HL)
 have r:Y w.1.size w w1:=(ud HB).trans (f.mono (S q4))
 obtain⟨a0,a1,a2,a3,a4,a5,a6,a7,a8,a9,ae,af,ag,ah,ai,-⟩:=zc n
 have H:=zd (ud m w1 r)
 dsimp only
 clear m n t L y0 y1 z0 f r q1 q2 q3 q4
 go_wp2_with(first|(go_at_call 80;refine(ud H).mono ?_;rintro e w' ⟨rfl,hR⟩)|fail)
 go_ret
 exact⟨rfl,hR⟩
theorem zkJ{B:Nat}{w:U}{wb:Nat}{pv lv:Value}{ps:List Nat}(hw:w.1[wb]?=O (.cells #[pv,lv] 77 (0,0)))(g:w.ownsRow B 134 1 pv ps.length (ps.map (fun q=> .pointer (O ⟨q,0,E⟩)))){i l:Nat}(k:ps[i]?=O l)(C:l<w.1.size)(y:w.cell? ⟨l,14,E⟩=O (.bool false))(o:Ops)(z:∀w:U,Calls prog 79 #[I J o.on,I J ps.length] w fun e w'=>e=.returned (I J i)/\w'=w)(R:U->Prop)
  (HA:∀w4,Y w.1.size w w4->Calls prog 81 #[.pointer (O ⟨wb,0,E⟩),.pointer (O ⟨l,0,E⟩),.agg #[I J 4,I J o.on,I J o.a,I J o.b,I J o.c,I Q o.v,I J o.te,I J o.tn,I J o.fs,I J o.fe,I J o.fb,I J o.fw,I J o.fk,I J o.fq,.slice o.fa o.fn o.fc]] w4 fun e w'=>e=.returned (.bool true)/\R w'):
  Calls prog 34 #[.pointer (O ⟨wb,0,E⟩),.agg #[I J 4,I J o.on,I J o.a,I J o.b,I J o.c,I Q o.v,I J o.te,I J o.tn,I J o.fs,I J o.fe,I J o.fb,I J o.fw,I J o.fk,I J o.fq,.slice o.fa o.fn o.fc]] w fun e w'=>e=.returned (.bool true)/\R w':=by
 obtain⟨pa,ac,rfl⟩:=zm g
 have P:i<ps.length:=(List.getElem?_eq_some_iff.1 k).1
 obtain⟨gb,aa,M,_,x⟩:=g.form (by omega)
 cases M
 have G:=zb hw
 have d:Y w.1.size w (w.alloc (.cells #[I J 4,I J o.on,I J o.a,I J o.b,I J o.c,I Q o.v,I J o.te,I J o.tn,I J o.fs,I J o.fe,I J o.fb,I J o.fw,I J o.fk,I J o.fq,.slice o.fa o.fn o.fc] 82)):=(A _ _).alloc (Z _) _
 have j:=zr w (.cells #[I J 4,I J o.on,I J o.a,I J o.b,I J o.c,I Q o.v,I J o.te,I J o.tn,I J o.fs,I J o.fe,I J o.fb,I J o.fw,I J o.fk,I J o.fq,.slice o.fa o.fn o.fc] 82)
 have D:(w.alloc (.cells #[I J 4,I J o.on,I J o.a,I J o.b,I J o.c,I Q o.v,I J o.te,I J o.tn,I J o.fs,I J o.fe,I J o.fb,I J o.fw,I J o.fk,I J o.fq,.slice o.fa o.fn o.fc] 82)).1.size=w.1.size+1:=zG w _
 have F:=(d.block wb G).trans hw
 have s:=Ja g k
 have L:=((d.cell (p:=⟨gb,i,E⟩) x)).trans s
 have t:=((d.cell (p:=⟨l,14,E⟩) C)).trans y
 have ak:(i:Int)<(ps.length:Int):=by omega
 have ab:¬(ps.length:Int)=0:=by omega
 have HB:=zd d
 have K:=fun W=>zd (z W)
 obtain⟨z0,-⟩:=zc F
 obtain⟨y0,y1,-⟩:=zc j
 have HL:=zd j
 have ad:Hid ((w.alloc (.cells #[I J 4,I J o.on,I J o.a,I J o.b,I J o.c,I Q o.v,I J o.te,I J o.tn,I J o.fs,I J o.fe,I J o.fb,I J o.fw,I J o.fk,I J o.fq,.slice o.fa o.fn o.fc] 82)).1.size=w.1.size+1):=D
 have m:=zd HA
 clear HA
 clear g j d D hw F z y s k P
 go_enter func34,ntmps34
 go_wp2_with fail
 have q1:wb<w.1.size+1:=by omega
 have q2:gb<w.1.size+1:=by omega
 have q3:l<w.1.size+1:=by omega
 have q4:w.1.size<w.1.size+1:=by omega
 clear G x C
 generalize(w.alloc (.cells #[I J 4,I J o.on,I J o.a,I J o.b,I J o.c,I Q o.v,I J o.te,I J o.tn,I J o.fs,I J o.fe,I J o.fb,I J o.fw,I J o.fk,I J o.fq,.slice o.fa o.fn o.fc] 82))=X at*
 generalize w.1.size+1=N at*
 have V:Nonempty (zj N X):=zj.some _ _
 have T:=fun(u:zj N X) b o h=>u.cell b o h
 refine ze N (by kernel_rfl) (by kernel_rfl) ?_
 repeat(go_big_quiet_step (first|(go_at_call 79;exact Calls.later_same (ud (K _)))))
 refine wpQuiet_nil ?_
 rintro⟨w1,f⟩
 clear T V
 have aj:=(f.cell (p:=⟨l,14,E⟩) q3).trans t
 have n:=(f.block w.1.size q4).trans (ud HL)
 have r:Y w.1.size w w1:=(ud HB).trans (f.mono (S q4))
 obtain⟨a0,a1,a2,a3,a4,a5,a6,a7,a8,a9,ae,af,ag,ah,ai,-⟩:=zc n
 have H:=zd (ud m w1 r)
 dsimp only
 clear m n t L y0 y1 z0 f r q1 q2 q3 q4
 go_wp2_with(first|(go_at_call 81;refine(ud H).mono ?_;rintro e w' ⟨rfl,hR⟩)|fail)
 go_ret
 exact⟨rfl,hR⟩
theorem zkK{B:Nat}{w:U}{wb:Nat}{pv lv:Value}{ps:List Nat}(hw:w.1[wb]?=O (.cells #[pv,lv] 77 (0,0)))(g:w.ownsRow B 134 1 pv ps.length (ps.map (fun q=> .pointer (O ⟨q,0,E⟩)))){i l:Nat}(k:ps[i]?=O l)(C:l<w.1.size)(y:w.cell? ⟨l,14,E⟩=O (.bool false))(o:Ops)(z:∀w:U,Calls prog 79 #[I J o.on,I J ps.length] w fun e w'=>e=.returned (I J i)/\w'=w)(R:U->Prop)
  (HA:∀w4,Y w.1.size w w4->Calls prog 81 #[.pointer (O ⟨wb,0,E⟩),.pointer (O ⟨l,0,E⟩),.agg #[I J 5,I J o.on,I J o.a,I J o.b,I J o.c,I Q o.v,I J o.te,I J o.tn,I J o.fs,I J o.fe,I J o.fb,I J o.fw,I J o.fk,I J o.fq,.slice o.fa o.fn o.fc]] w4 fun e w'=>e=.returned (.bool true)/\R w'):
  Calls prog 34 #[.pointer (O ⟨wb,0,E⟩),.agg #[I J 5,I J o.on,I J o.a,I J o.b,I J o.c,I Q o.v,I J o.te,I J o.tn,I J o.fs,I J o.fe,I J o.fb,I J o.fw,I J o.fk,I J o.fq,.slice o.fa o.fn o.fc]] w fun e w'=>e=.returned (.bool true)/\R w':=by
 obtain⟨pa,ac,rfl⟩:=zm g
 have P:i<ps.length:=(List.getElem?_eq_some_iff.1 k).1
 obtain⟨gb,aa,M,_,x⟩:=g.form (by omega)
 cases M
 have G:=zb hw
 have d:Y w.1.size w (w.alloc (.cells #[I J 5,I J o.on,I J o.a,I J o.b,I J o.c,I Q o.v,I J o.te,I J o.tn,I J o.fs,I J o.fe,I J o.fb,I J o.fw,I J o.fk,I J o.fq,.slice o.fa o.fn o.fc] 82)):=(A _ _).alloc (Z _) _
 have j:=zr w (.cells #[I J 5,I J o.on,I J o.a,I J o.b,I J o.c,I Q o.v,I J o.te,I J o.tn,I J o.fs,I J o.fe,I J o.fb,I J o.fw,I J o.fk,I J o.fq,.slice o.fa o.fn o.fc] 82)
 have D:(w.alloc (.cells #[I J 5,I J o.on,I J o.a,I J o.b,I J o.c,I Q o.v,I J o.te,I J o.tn,I J o.fs,I J o.fe,I J o.fb,I J o.fw,I J o.fk,I J o.fq,.slice o.fa o.fn o.fc] 82)).1.size=w.1.size+1:=zG w _
 have F:=(d.block wb G).trans hw
 have s:=Ja g k
 have L:=((d.cell (p:=⟨gb,i,E⟩) x)).trans s
 have t:=((d.cell (p:=⟨l,14,E⟩) C)).trans y
 have ak:(i:Int)<(ps.length:Int):=by omega
 have ab:¬(ps.length:Int)=0:=by omega
 have HB:=zd d
 have K:=fun W=>zd (z W)
 obtain⟨z0,-⟩:=zc F
 obtain⟨y0,y1,-⟩:=zc j
 have HL:=zd j
 have ad:Hid ((w.alloc (.cells #[I J 5,I J o.on,I J o.a,I J o.b,I J o.c,I Q o.v,I J o.te,I J o.tn,I J o.fs,I J o.fe,I J o.fb,I J o.fw,I J o.fk,I J o.fq,.slice o.fa o.fn o.fc] 82)).1.size=w.1.size+1):=D
 have m:=zd HA
 clear HA
 clear g j d D hw F z y s k P
 go_enter func34,ntmps34
 go_wp2_with fail
 have q1:wb<w.1.size+1:=by omega
 have q2:gb<w.1.size+1:=by omega
 have q3:l<w.1.size+1:=by omega
 have q4:w.1.size<w.1.size+1:=by omega
 clear G x C
 generalize(w.alloc (.cells #[I J 5,I J o.on,I J o.a,I J o.b,I J o.c,I Q o.v,I J o.te,I J o.tn,I J o.fs,I J o.fe,I J o.fb,I J o.fw,I J o.fk,I J o.fq,.slice o.fa o.fn o.fc] 82))=X at*
 generalize w.1.size+1=N at*
 have V:Nonempty (zj N X):=zj.some _ _
 have T:=fun(u:zj N X) b o h=>u.cell b o h
 refine ze N (by kernel_rfl) (by kernel_rfl) ?_
 repeat(go_big_quiet_step (first|(go_at_call 79;exact Calls.later_same (ud (K _)))))
 refine wpQuiet_nil ?_
 rintro⟨w1,f⟩
 clear T V
 have aj:=(f.cell (p:=⟨l,14,E⟩) q3).trans t
 have n:=(f.block w.1.size q4).trans (ud HL)
 have r:Y w.1.size w w1:=(ud HB).trans (f.mono (S q4))
 obtain⟨a0,a1,a2,a3,a4,a5,a6,a7,a8,a9,ae,af,ag,ah,ai,-⟩:=zc n
 have H:=zd (ud m w1 r)
 dsimp only
 clear m n t L y0 y1 z0 f r q1 q2 q3 q4
 go_wp2_with(first|(go_at_call 81;refine(ud H).mono ?_;rintro e w' ⟨rfl,hR⟩)|fail)
 go_ret
 exact⟨rfl,hR⟩
theorem zfw{B:Nat}{w:U}{wb:Nat}{pv lv:Value}{ps:List Nat}(V:w.1[wb]?=O (.cells #[pv,lv] 77 (0,0)))(j:w.ownsRow B 134 1 pv ps.length (ps.map (fun q=> .pointer (O ⟨q,0,E⟩)))){i m:Nat}(l:ps[i]?=O m)(z:m<w.1.size)(x:w.cell? ⟨m,14,E⟩=O (.bool false))(o:Ops)(y:∀w:U,Calls prog 79 #[I J o.on,I J ps.length] w fun e w'=>e=.returned (I J i)/\w'=w)(d:Int)(P:d<=0):
  Calls prog 34 #[.pointer (O ⟨wb,0,E⟩),.agg #[I J d,I J o.on,I J o.a,I J o.b,I J o.c,I Q o.v,I J o.te,I J o.tn,I J o.fs,I J o.fe,I J o.fb,I J o.fw,I J o.fk,I J o.fq,.slice o.fa o.fn o.fc]] w fun e w'=>e=.returned (.bool true)/\Y w.1.size w w':=by
 obtain⟨pa,a3,rfl⟩:=zm j
 have M:i<ps.length:=(List.getElem?_eq_some_iff.1 l).1
 obtain⟨gb,a1,L,_,t⟩:=j.form (by omega)
 cases L
 have F:=zb V
 have f:Y w.1.size w (w.alloc (.cells #[I J d,I J o.on,I J o.a,I J o.b,I J o.c,I Q o.v,I J o.te,I J o.tn,I J o.fs,I J o.fe,I J o.fb,I J o.fw,I J o.fk,I J o.fq,.slice o.fa o.fn o.fc] 82)):=(A _ _).alloc (Z _) _
 have k:=zr w (.cells #[I J d,I J o.on,I J o.a,I J o.b,I J o.c,I Q o.v,I J o.te,I J o.tn,I J o.fs,I J o.fe,I J o.fb,I J o.fw,I J o.fk,I J o.fq,.slice o.fa o.fn o.fc] 82)
 have C:(w.alloc (.cells #[I J d,I J o.on,I J o.a,I J o.b,I J o.c,I Q o.v,I J o.te,I J o.tn,I J o.fs,I J o.fe,I J o.fb,I J o.fw,I J o.fk,I J o.fq,.slice o.fa o.fn o.fc] 82)).1.size=w.1.size+1:=zG w _
 have D:=(f.block wb F).trans V
 have r:=Ja j l
 have K:=((f.cell (p:=⟨gb,i,E⟩) t)).trans r
 have s:=((f.cell (p:=⟨m,14,E⟩) z)).trans x
 have a6:(i:Int)<(ps.length:Int):=by omega
 have a2:¬(ps.length:Int)=0:=by omega
 have HB:=zd f
 have G:=fun W=>zd (y W)
 obtain⟨z0,-⟩:=zc D
 obtain⟨y0,y1,-⟩:=zc k
 have HL:=zd k
 have a4:Hid ((w.alloc (.cells #[I J d,I J o.on,I J o.a,I J o.b,I J o.c,I Q o.v,I J o.te,I J o.tn,I J o.fs,I J o.fe,I J o.fb,I J o.fw,I J o.fk,I J o.fq,.slice o.fa o.fn o.fc] 82)).1.size=w.1.size+1):=C
 have k1:¬d=1:=by omega
 have aa:¬d=13:=by omega
 clear j k f C V D y x r l M
 go_enter func34,ntmps34
 go_wp2_with fail
 have q1:wb<w.1.size+1:=by omega
 have q2:gb<w.1.size+1:=by omega
 have q3:m<w.1.size+1:=by omega
 have q4:w.1.size<w.1.size+1:=by omega
 clear F t z
 generalize(w.alloc (.cells #[I J d,I J o.on,I J o.a,I J o.b,I J o.c,I Q o.v,I J o.te,I J o.tn,I J o.fs,I J o.fe,I J o.fb,I J o.fw,I J o.fk,I J o.fq,.slice o.fa o.fn o.fc] 82))=X at*
 generalize w.1.size+1=N at*
 have T:Nonempty (zj N X):=zj.some _ _
 have R:=fun(u:zj N X) b o h=>u.cell b o h
 refine ze N (by kernel_rfl) (by kernel_rfl) ?_
 repeat(go_big_quiet_step (first|(go_at_call 79;exact Calls.later_same (ud (G _)))))
 refine wpQuiet_nil ?_
 rintro⟨w1,g⟩
 clear R T
 have a5:=(g.cell (p:=⟨m,14,E⟩) q3).trans s
 have n:=(g.block w.1.size q4).trans (ud HL)
 have H:Y w.1.size w w1:=(ud HB).trans (g.mono (S q4))
 obtain⟨a0,-⟩:=zc n
 have k2:¬d=2:=by omega
 have k3:¬d=3:=by omega
 have k4:¬d=4:=by omega
 have k5:¬d=5:=by omega
 have k6:¬d=6:=by omega
 have k7:¬d=7:=by omega
 have k8:¬d=8:=by omega
 have k9:¬d=9:=by omega
 have a7:¬d=10:=by omega
 have a8:¬d=11:=by omega
 have a9:¬d=12:=by omega
 dsimp only
 clear n s K y0 y1 z0 g q1 q2 q3 q4 P
 go_wp2_with fail
 go_ret
 exact⟨rfl,H⟩
end Go.Proofs.YtndhpgciopcncaaGreatDoor
namespace Go.Proofs.YtndhpgciopcncaaGreatDoor
open Go.RowKit Go.ChangeShapes Go.WideShapes
theorem Tryz.cellsOp:prog.cellsOf 82=15:=by kernel_rfl
theorem Tryz.cellsInt32:prog.cellsOf 21=1:=by kernel_rfl
theorem Tryz.cellsToken:prog.cellsOf 49=2:=by kernel_rfl
theorem Tryz.bytesOp:prog.bytesOf 82=136:=by kernel_rfl
theorem zhR{H:Type}{P:Program}{e:TypeId}:∀{l:List (DataW H)} {d:DataW H},d∈l->∀y∈d.weights P e,y∈DataW.weightsAll P e l
 |[],d,h=>by cases h
 |x::r,d,h=>fun y a=>by
  simp only[DataW.weightsAll,List.mem_append]
  rcases List.mem_cons.1 h with rfl|h
  ·exact .inl a
  ·exact .inr (zhR h y a)
theorem JC{k:Int}(h:(Lit.int .i64 k).wf=true): -9223372036854775808<=k/\k<=9223372036854775807:=by
 have a:IntKind.min .i64= -9223372036854775808:=by decide
 have b:IntKind.max .i64=9223372036854775807:=by decide
 simp[Lit.wf]at h;omega
theorem zkk{k:Int}(h:(Lit.int .i32 k).wf=true): -2147483648<=k/\k<=2147483647:=by
 have a:IntKind.min .i32= -2147483648:=by decide
 have b:IntKind.max .i32=2147483647:=by decide
 simp[Lit.wf]at h;omega
instance:Inhabited Ops:=⟨⟨0,0,0,0,0,0,0,0,0,0,0,0,0,0,E,0,0⟩⟩
section
variable {H:Type} {enc:TypeId×Value->H} {w:U} {held:Bool}
theorem zcL{a:Nat}{cs:List Value}{x:DataW H×List MemPlace}(h:DataW.trod enc prog w 0 (fun _=>true) held a 49 cs=O x):∃e n:Int,cs=[I J e,I J n]/\(-9223372036854775808<=e/\e<=9223372036854775807)/\(-9223372036854775808<=n/\n<=9223372036854775807):=by
 obtain⟨xs,m,_,rfl,j,b,i⟩:=DataW.trod_struct underlying49 h
 rw[Tryz.cellsToken]at j
 match cs,j with
 |[c,d],_=>
  match xs,b with
  |[k,l],_=>
   have p:DataW.trod enc prog w 0 (fun _=>true) held m 3 [c]=O k:=by have h:DataW.trod enc prog w 0 (fun _=>true) held m 3 (([c,d].drop 0).take (prog.cellsOf 3))=O k:=i 0 _ rfl;rw[Tryz.cellsInt]at h;exact h
   have q:DataW.trod enc prog w 0 (fun _=>true) held m 3 [d]=O l:=by have h:DataW.trod enc prog w 0 (fun _=>true) held m 3 (([c,d].drop 1).take (prog.cellsOf 3))=O l:=i 1 _ rfl;rw[Tryz.cellsInt]at h;exact h
   obtain⟨a0,f,_,r⟩:=DataW.trod_int underlying3 p
   obtain⟨o,g,_,s⟩:=DataW.trod_int underlying3 q
   simp at f g
   exact⟨a0,o,by rw[f,g],JC r,JC s⟩
theorem ziL{F:Nat}{cs:List Value}{x:DataW H×List MemPlace}(h:DataW.trod enc prog w 0 (fun _=>true) held F 82 cs=O x):
  ∃(o:Ops) (T:(Nat->Int)×(Nat->Int)×(Nat->Int)),cs=[I J o.kd,I J o.on,I J o.a,I J o.b,I J o.c,I Q o.v,I J o.te,I J o.tn,I J o.fs,I J o.fe,I J o.fb,I J o.fw,I J o.fk,I J o.fq,.slice o.fa o.fn o.fc]/\TS w o.fa o.fn T.1 T.2.1 T.2.2/\((∀y∈x.1.weights prog 82,y<=reachBytes)->o.fits):=by
 obtain⟨xs,m,_,rfl,hl,G,D⟩:=DataW.trod_struct underlying82 h
 rw[Tryz.cellsOp]at hl
 match cs,hl with
 |[k,l,p,q,r,t,u,z,B,C,d,e,f,g,i],_=>
  match xs,G with
  |[y0,y1,y2,y3,y4,y5,y6,y7],_=>
   have q0:DataW.trod enc prog w 0 (fun _=>true) held m 3 [k]=O y0:=by have h:DataW.trod enc prog w 0 (fun _=>true) held m 3 (([k,l,p,q,r,t,u,z,B,C,d,e,f,g,i].drop 0).take (prog.cellsOf 3))=O y0:=D 0 _ rfl;rw[Tryz.cellsInt]at h;exact h
   have q1:DataW.trod enc prog w 0 (fun _=>true) held m 3 [l]=O y1:=by have h:DataW.trod enc prog w 0 (fun _=>true) held m 3 (([k,l,p,q,r,t,u,z,B,C,d,e,f,g,i].drop 1).take (prog.cellsOf 3))=O y1:=D 1 _ rfl;rw[Tryz.cellsInt]at h;exact h
   have q2:DataW.trod enc prog w 0 (fun _=>true) held m 3 [p]=O y2:=by have h:DataW.trod enc prog w 0 (fun _=>true) held m 3 (([k,l,p,q,r,t,u,z,B,C,d,e,f,g,i].drop 2).take (prog.cellsOf 3))=O y2:=D 2 _ rfl;rw[Tryz.cellsInt]at h;exact h
   have q3:DataW.trod enc prog w 0 (fun _=>true) held m 3 [q]=O y3:=by have h:DataW.trod enc prog w 0 (fun _=>true) held m 3 (([k,l,p,q,r,t,u,z,B,C,d,e,f,g,i].drop 3).take (prog.cellsOf 3))=O y3:=D 3 _ rfl;rw[Tryz.cellsInt]at h;exact h
   have q4:DataW.trod enc prog w 0 (fun _=>true) held m 3 [r]=O y4:=by have h:DataW.trod enc prog w 0 (fun _=>true) held m 3 (([k,l,p,q,r,t,u,z,B,C,d,e,f,g,i].drop 4).take (prog.cellsOf 3))=O y4:=D 4 _ rfl;rw[Tryz.cellsInt]at h;exact h
   have q5:DataW.trod enc prog w 0 (fun _=>true) held m 21 [t]=O y5:=by have h:DataW.trod enc prog w 0 (fun _=>true) held m 21 (([k,l,p,q,r,t,u,z,B,C,d,e,f,g,i].drop 5).take (prog.cellsOf 21))=O y5:=D 5 _ rfl;rw[Tryz.cellsInt32]at h;exact h
   have q6:DataW.trod enc prog w 0 (fun _=>true) held m 49 [u,z]=O y6:=by have h:DataW.trod enc prog w 0 (fun _=>true) held m 49 (([k,l,p,q,r,t,u,z,B,C,d,e,f,g,i].drop 6).take (prog.cellsOf 49))=O y6:=D 6 _ rfl;rw[Tryz.cellsToken]at h;exact h
   have q7:DataW.trod enc prog w 0 (fun _=>true) held m 27 [B,C,d,e,f,g,i]=O y7:=by have h:DataW.trod enc prog w 0 (fun _=>true) held m 27 (([k,l,p,q,r,t,u,z,B,C,d,e,f,g,i].drop 8).take (prog.cellsOf 27))=O y7:=D 7 _ rfl;rw[Tryz.cellsConfig]at h;exact h
   obtain⟨a0,e0,_,w0⟩:=DataW.trod_int underlying3 q0
   obtain⟨a1,e1,_,w1⟩:=DataW.trod_int underlying3 q1
   obtain⟨a2,e2,_,w2⟩:=DataW.trod_int underlying3 q2
   obtain⟨a3,e3,_,w3⟩:=DataW.trod_int underlying3 q3
   obtain⟨a4,e4,_,w4⟩:=DataW.trod_int underlying3 q4
   obtain⟨a5,e5,_,w5⟩:=DataW.trod_int underlying21 q5
   obtain⟨t0,t1,e6,g0,g1⟩:=zcL q6
   obtain⟨s,le,la,wi,ke,qu,a,n,cap,Fr,Wd,K,e7,a7,a9,a8⟩:=zap q7
   simp at e0 e1 e2 e3 e4 e5 e6 e7
   obtain⟨L,M⟩:=e6
   obtain⟨N,P,R,V,W,X,a6⟩:=e7
   refine⟨⟨a0,a1,a2,a3,a4,a5,t0,t1,s,le,la,wi,ke,qu,a,n,cap⟩,(Fr,Wd,K),by rw[e0,e1,e2,e3,e4,e5,L,M,N,P,R,V,W,X,a6],a7,fun hw=>⟨JC w1,JC w2,zkk w5,g0,g1,?_⟩⟩
   have hh:=a8 (fun y hy=>hw y (by
    simp only[DataW.weights,underlying82]
    exact DataW.weights_mem_each (j:=7) rfl rfl y hy))
   simp only[reachBytes]at hh
   show 24*(n+1)<=281474976710656
   omega
theorem zgN{k:Nat}{cs:List Value}{x:DataW H×List MemPlace}(h:DataW.trod enc prog w 0 (fun _=>true) held k 22 cs=O x)(B:∀y∈x.1.weights prog 22,y<=reachBytes):
  ∃(a:Option Addr) (n cap:Nat) (G:Nat->Ops) (T:Nat->(Nat->Int)×(Nat->Int)×(Nat->Int)),cs=[.slice a n cap]/\OS w a n G/\n<=1099511627776/\(∀i,i<n->TS w (G i).fa (G i).fn (T i).1 (T i).2.1 (T i).2.2)/\∀i,i<n->(G i).fits:=by
 rcases Go.Deep.open_slice underlying22 h with⟨rfl,rfl⟩|⟨a,len,cap,m,n,D,W,rfl,X,hl,hm,z,rfl,F⟩
 ·exact⟨E,0,0,fun _=>⟨0,0,0,0,0,0,0,0,0,0,0,0,0,0,E,0,0⟩,fun _=>(fun _=>0,fun _=>0,fun _=>0),rfl,fun t=>absurd t (Nat.lt_irrefl _),Nat.zero_le _,fun i f=>absurd f (Nat.not_lt_zero _),fun i f=>absurd f (Nat.not_lt_zero _)⟩
 ·rw[Tryz.cellsOp]at F
  obtain⟨G,s⟩:=Go.Deep.choose_lt (α:=Ops×((Nat->Int)×(Nat->Int)×(Nat->Int))) (n:=len) (p:=fun i g=>w.cells? 0 (a.add (i*15)) 15=O [I J g.1.kd,I J g.1.on,I J g.1.a,I J g.1.b,I J g.1.c,I Q g.1.v,I J g.1.te,I J g.1.tn,I J g.1.fs,I J g.1.fe,I J g.1.fb,I J g.1.fw,I J g.1.fk,I J g.1.fq,.slice g.1.fa g.1.fn g.1.fc]/\TS w g.1.fa g.1.fn g.2.1 g.2.2.1 g.2.2.2/\((∀y∈(D i).weights prog 82,y<=reachBytes)->g.1.fits)) (fun i f=>by
   obtain⟨K,L,M⟩:=F i (by rw[z];simp;omega)
   obtain⟨o,T,rfl,N,P⟩:=ziL M
   exact⟨(o,T),L,N,P⟩)
  simp only[DataW.weights,underlying22,Tryz.bytesOp]at B
  have l:len<=1099511627776:=by
   have:=B _ (List.mem_cons_self ..)
   simp only[reachBytes,List.length_map,List.length_range]at this
   omega
  refine⟨O a,len,cap,fun i=>(G i).1,fun i=>(G i).2,rfl,fun t=>?_,l,fun i f=>(s i f).2.1,fun i f=>(s i f).2.2 (fun y V=>B y (List.mem_cons_of_mem _ (List.mem_append_left _ (zhR (d:=D i) (List.mem_map.2 ⟨i,List.mem_range.2 f,rfl⟩) y V))))⟩
  obtain⟨b,q,r⟩:=a
  have C:=(World.cells?_some (s 0 t).1).2.2 0 (by omega)
  have j:r=E:=by simpa[Addr.add]using World.cell?_spot (C.trans (by rfl))
  subst j
  have u:b<w.1.size:=by
   have:w.cell? ⟨b,q,E⟩=O (I J (G 0).1.kd):=by simpa[Addr.add]using C
   by_cases R:b<w.1.size
   ·exact R
   ·simp[World.cell?,Array.getElem?_eq_none (show w.1.size<=b by omega)]at this
  refine⟨b,q,rfl,u,fun i f=>?_⟩
  have e:=(World.cells?_some (s i f).1).2.2
  refine⟨?_,?_,?_,?_,?_,?_,?_,?_,?_,?_,?_,?_,?_,?_,?_⟩
  ·have:=e 0 (by omega);simpa[zV]using this
  ·have:=e 1 (by omega);simpa[zV]using this
  ·have:=e 2 (by omega);simpa[zV]using this
  ·have:=e 3 (by omega);simpa[zV]using this
  ·have:=e 4 (by omega);simpa[zV]using this
  ·have:=e 5 (by omega);simpa[zV]using this
  ·have:=e 6 (by omega);simpa[zV]using this
  ·have:=e 7 (by omega);simpa[zV]using this
  ·have:=e 8 (by omega);simpa[zV]using this
  ·have:=e 9 (by omega);simpa[zV]using this
  ·have:=e 10 (by omega);simpa[zV]using this
  ·have:=e 11 (by omega);simpa[zV]using this
  ·have:=e 12 (by omega);simpa[zV]using this
  ·have:=e 13 (by omega);simpa[zV]using this
  ·have:=e 14 (by omega);simpa[zV]using this
end
end Go.Proofs.YtndhpgciopcncaaGreatDoor
