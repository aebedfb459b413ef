import Derived.Test.YtpbimdkclnekeaaGreatVRefR
open Go.Value renaming int → I
open Go.IntKind renaming i64 → J
open Option renaming some → O
open Option renaming none → E
open Nat renaming lt_of_lt_of_le → U
open Go renaming Value → Y
open Go.RowKit renaming Below → N
open Go renaming World → S
open Nat renaming le_refl → A
open Nat renaming le_trans → D
open Go.RowKit.Below renaming refl → G
open Nat renaming zero_le → L
open Go.IntKind (i32)
set_option linter.unusedVariables false
set_option maxRecDepth 8000
set_option maxHeartbeats 8000000
open Go.Proofs.Tryz
namespace Go.Proofs.YtpbimdkclnekeaaGreat
open Go.RowKit
def RM.due(m:RM)(x:Tk):Int:=if x.kind=2 then m.c.end x.s+m.c.keep x.s.t else m.c.end x.s
theorem Ka{m:RM}(f:m.c.ok){x:Tk}(i:zgr m.c x.s):0<=m.due x/\m.due x<=100002000:=by
 obtain⟨d,e,g,h⟩:=i
 have a:=f.ends d e g h
 have b:=f.keeps d e
 unfold RM.due
 split<;>omega
theorem QC{B:Nat}{w:S}{p:Nat}{m:RM}{tv nv pv gv kv:Y}(h:zJ B w p m tv nv pv gv kv)(q:m.c.ok)(x:Tk)(R:zgr m.c x.s):
  Calls prog 223 #[.pointer (O ⟨p,0,E⟩),tkA x] w fun e w'=>e=.returned (I J (m.due x))/\N w.1.size w w':=by
 obtain⟨n,o,y,z⟩:=R
 have a:=q.ends n o y z
 have b:=q.keeps n o
 have g:N w.1.size w (w.alloc (yc x)):=(G _ _).alloc (A _) _
 have k:=zo w (yc x)
 have u:=ze (Vb (h.later g) q x.s n o y z)
 have Q:=k
 unfold yc at g k u
 obtain⟨F,K,T,V,-⟩:=xG (f:=x) k
 have l:=zd k
 have i:=ze g
 have H:=ze h
 clear h Q k g
 go_enter func223,ntmps223
 go_wp2_with fail
 refine(ud u).mono ?_
 rintro e W ⟨rfl,d⟩
 have Z:=(d.cell (p:=⟨w.1.size,0,E⟩) l).trans F
 have z1:=(d.cell (p:=⟨w.1.size,1,E⟩) l).trans K
 have P:=U l d.size
 have j:=(ud i).trans (d.mono (ud i).size)
 have M:=ze (Vk ((ud H).later j) q x.s.t n o)
 have v:=ze j
 clear d j F K T V l u i
 by_cases C:x.kind=2
 ·have r:Hid (m.due x=m.c.end x.s+m.c.keep x.s.t):=by show m.due x=_;unfold RM.due;rw[if_pos C]
  go_wp2_with fail
  refine(ud M).mono ?_
  rintro e X ⟨rfl,rfl⟩
  go_wp2_with fail
  go_ret
  exact⟨by rw[ud r];rfl,ud v⟩
 ·have r:Hid (m.due x=m.c.end x.s):=by show m.due x=_;unfold RM.due;rw[if_neg C]
  go_wp2_with fail
  go_ret
  exact⟨by rw[ud r];rfl,ud v⟩
def zar(k:Int):Tk:=⟨k,⟨0,0,0⟩,0,0,0,0,0,0,0⟩
def MkJ(X:Nat)(w:S)(u:Y)(n:Nat)(k:Int):Prop:=w.ownsRow X 51 11 u n ((List.replicate n (zar k)).flatMap tkV)
structure Zc(B:Nat)(w:S)(lv:Y)(kn:List Y)(q:Nat):Prop where
 row:w.ownsRow B 55 1 lv kn.length kn
 four:kn.length=4*q
 marks:∀j v,kn[j]?=O v->∃n,n<=1000000/\MkJ B w v n (((j/4:Nat):Int)+10)
theorem zlc{l:List Tk}{k:Nat}{x m:Tk}(d:l[k]?=O x):((((((((((((l.flatMap tkV).set (k*11) (I J m.kind)).set (k*11+1) (I J m.s.t)).set (k*11+2) (I J m.s.se)).set (k*11+3) (I J m.s.we)).set (k*11+4) (I J m.si)).set (k*11+5) (I J m.tc)).set (k*11+6) (I J m.rest)).set (k*11+7) (I J m.ep)).set (k*11+8) (I J m.num)).set (k*11+9) (I J m.slot)).set (k*11+10) (I J m.till))=(l.set k m).flatMap tkV:=by
 have u:k<l.length:=(List.getElem?_eq_some_iff.1 d).1
 have b:∀a:Tk,(l.set k a)[k]?=O a:=fun a=>by simp[u]
 have e:(l.flatMap tkV).set (k*11+0) (I J m.kind)=(l.set k (⟨m.kind,⟨x.s.t,x.s.se,x.s.we⟩,x.si,x.tc,x.rest,x.ep,x.num,x.slot,x.till⟩:Tk)).flatMap tkV:=qR (f:=tkV) (k:=11) (a:=x) (a':=(⟨m.kind,⟨x.s.t,x.s.se,x.s.we⟩,x.si,x.tc,x.rest,x.ep,x.num,x.slot,x.till⟩:Tk)) qG (by omega) rfl l k d
 have g:((l.set k (⟨m.kind,⟨x.s.t,x.s.se,x.s.we⟩,x.si,x.tc,x.rest,x.ep,x.num,x.slot,x.till⟩:Tk)).flatMap tkV).set (k*11+1) (I J m.s.t)=((l.set k (⟨m.kind,⟨x.s.t,x.s.se,x.s.we⟩,x.si,x.tc,x.rest,x.ep,x.num,x.slot,x.till⟩:Tk)).set k (⟨m.kind,⟨m.s.t,x.s.se,x.s.we⟩,x.si,x.tc,x.rest,x.ep,x.num,x.slot,x.till⟩:Tk)).flatMap tkV:=qR (f:=tkV) (k:=11) (a:=(⟨m.kind,⟨x.s.t,x.s.se,x.s.we⟩,x.si,x.tc,x.rest,x.ep,x.num,x.slot,x.till⟩:Tk)) (a':=(⟨m.kind,⟨m.s.t,x.s.se,x.s.we⟩,x.si,x.tc,x.rest,x.ep,x.num,x.slot,x.till⟩:Tk)) qG (by omega) rfl (l.set k (⟨m.kind,⟨x.s.t,x.s.se,x.s.we⟩,x.si,x.tc,x.rest,x.ep,x.num,x.slot,x.till⟩:Tk)) k (b _)
 have h:((l.set k (⟨m.kind,⟨m.s.t,x.s.se,x.s.we⟩,x.si,x.tc,x.rest,x.ep,x.num,x.slot,x.till⟩:Tk)).flatMap tkV).set (k*11+2) (I J m.s.se)=((l.set k (⟨m.kind,⟨m.s.t,x.s.se,x.s.we⟩,x.si,x.tc,x.rest,x.ep,x.num,x.slot,x.till⟩:Tk)).set k (⟨m.kind,⟨m.s.t,m.s.se,x.s.we⟩,x.si,x.tc,x.rest,x.ep,x.num,x.slot,x.till⟩:Tk)).flatMap tkV:=qR (f:=tkV) (k:=11) (a:=(⟨m.kind,⟨m.s.t,x.s.se,x.s.we⟩,x.si,x.tc,x.rest,x.ep,x.num,x.slot,x.till⟩:Tk)) (a':=(⟨m.kind,⟨m.s.t,m.s.se,x.s.we⟩,x.si,x.tc,x.rest,x.ep,x.num,x.slot,x.till⟩:Tk)) qG (by omega) rfl (l.set k (⟨m.kind,⟨m.s.t,x.s.se,x.s.we⟩,x.si,x.tc,x.rest,x.ep,x.num,x.slot,x.till⟩:Tk)) k (b _)
 have i:((l.set k (⟨m.kind,⟨m.s.t,m.s.se,x.s.we⟩,x.si,x.tc,x.rest,x.ep,x.num,x.slot,x.till⟩:Tk)).flatMap tkV).set (k*11+3) (I J m.s.we)=((l.set k (⟨m.kind,⟨m.s.t,m.s.se,x.s.we⟩,x.si,x.tc,x.rest,x.ep,x.num,x.slot,x.till⟩:Tk)).set k (⟨m.kind,⟨m.s.t,m.s.se,m.s.we⟩,x.si,x.tc,x.rest,x.ep,x.num,x.slot,x.till⟩:Tk)).flatMap tkV:=qR (f:=tkV) (k:=11) (a:=(⟨m.kind,⟨m.s.t,m.s.se,x.s.we⟩,x.si,x.tc,x.rest,x.ep,x.num,x.slot,x.till⟩:Tk)) (a':=(⟨m.kind,⟨m.s.t,m.s.se,m.s.we⟩,x.si,x.tc,x.rest,x.ep,x.num,x.slot,x.till⟩:Tk)) qG (by omega) rfl (l.set k (⟨m.kind,⟨m.s.t,m.s.se,x.s.we⟩,x.si,x.tc,x.rest,x.ep,x.num,x.slot,x.till⟩:Tk)) k (b _)
 have j:((l.set k (⟨m.kind,⟨m.s.t,m.s.se,m.s.we⟩,x.si,x.tc,x.rest,x.ep,x.num,x.slot,x.till⟩:Tk)).flatMap tkV).set (k*11+4) (I J m.si)=((l.set k (⟨m.kind,⟨m.s.t,m.s.se,m.s.we⟩,x.si,x.tc,x.rest,x.ep,x.num,x.slot,x.till⟩:Tk)).set k (⟨m.kind,⟨m.s.t,m.s.se,m.s.we⟩,m.si,x.tc,x.rest,x.ep,x.num,x.slot,x.till⟩:Tk)).flatMap tkV:=qR (f:=tkV) (k:=11) (a:=(⟨m.kind,⟨m.s.t,m.s.se,m.s.we⟩,x.si,x.tc,x.rest,x.ep,x.num,x.slot,x.till⟩:Tk)) (a':=(⟨m.kind,⟨m.s.t,m.s.se,m.s.we⟩,m.si,x.tc,x.rest,x.ep,x.num,x.slot,x.till⟩:Tk)) qG (by omega) rfl (l.set k (⟨m.kind,⟨m.s.t,m.s.se,m.s.we⟩,x.si,x.tc,x.rest,x.ep,x.num,x.slot,x.till⟩:Tk)) k (b _)
 have n:((l.set k (⟨m.kind,⟨m.s.t,m.s.se,m.s.we⟩,m.si,x.tc,x.rest,x.ep,x.num,x.slot,x.till⟩:Tk)).flatMap tkV).set (k*11+5) (I J m.tc)=((l.set k (⟨m.kind,⟨m.s.t,m.s.se,m.s.we⟩,m.si,x.tc,x.rest,x.ep,x.num,x.slot,x.till⟩:Tk)).set k (⟨m.kind,⟨m.s.t,m.s.se,m.s.we⟩,m.si,m.tc,x.rest,x.ep,x.num,x.slot,x.till⟩:Tk)).flatMap tkV:=qR (f:=tkV) (k:=11) (a:=(⟨m.kind,⟨m.s.t,m.s.se,m.s.we⟩,m.si,x.tc,x.rest,x.ep,x.num,x.slot,x.till⟩:Tk)) (a':=(⟨m.kind,⟨m.s.t,m.s.se,m.s.we⟩,m.si,m.tc,x.rest,x.ep,x.num,x.slot,x.till⟩:Tk)) qG (by omega) rfl (l.set k (⟨m.kind,⟨m.s.t,m.s.se,m.s.we⟩,m.si,x.tc,x.rest,x.ep,x.num,x.slot,x.till⟩:Tk)) k (b _)
 have o:((l.set k (⟨m.kind,⟨m.s.t,m.s.se,m.s.we⟩,m.si,m.tc,x.rest,x.ep,x.num,x.slot,x.till⟩:Tk)).flatMap tkV).set (k*11+6) (I J m.rest)=((l.set k (⟨m.kind,⟨m.s.t,m.s.se,m.s.we⟩,m.si,m.tc,x.rest,x.ep,x.num,x.slot,x.till⟩:Tk)).set k (⟨m.kind,⟨m.s.t,m.s.se,m.s.we⟩,m.si,m.tc,m.rest,x.ep,x.num,x.slot,x.till⟩:Tk)).flatMap tkV:=qR (f:=tkV) (k:=11) (a:=(⟨m.kind,⟨m.s.t,m.s.se,m.s.we⟩,m.si,m.tc,x.rest,x.ep,x.num,x.slot,x.till⟩:Tk)) (a':=(⟨m.kind,⟨m.s.t,m.s.se,m.s.we⟩,m.si,m.tc,m.rest,x.ep,x.num,x.slot,x.till⟩:Tk)) qG (by omega) rfl (l.set k (⟨m.kind,⟨m.s.t,m.s.se,m.s.we⟩,m.si,m.tc,x.rest,x.ep,x.num,x.slot,x.till⟩:Tk)) k (b _)
 have p:((l.set k (⟨m.kind,⟨m.s.t,m.s.se,m.s.we⟩,m.si,m.tc,m.rest,x.ep,x.num,x.slot,x.till⟩:Tk)).flatMap tkV).set (k*11+7) (I J m.ep)=((l.set k (⟨m.kind,⟨m.s.t,m.s.se,m.s.we⟩,m.si,m.tc,m.rest,x.ep,x.num,x.slot,x.till⟩:Tk)).set k (⟨m.kind,⟨m.s.t,m.s.se,m.s.we⟩,m.si,m.tc,m.rest,m.ep,x.num,x.slot,x.till⟩:Tk)).flatMap tkV:=qR (f:=tkV) (k:=11) (a:=(⟨m.kind,⟨m.s.t,m.s.se,m.s.we⟩,m.si,m.tc,m.rest,x.ep,x.num,x.slot,x.till⟩:Tk)) (a':=(⟨m.kind,⟨m.s.t,m.s.se,m.s.we⟩,m.si,m.tc,m.rest,m.ep,x.num,x.slot,x.till⟩:Tk)) qG (by omega) rfl (l.set k (⟨m.kind,⟨m.s.t,m.s.se,m.s.we⟩,m.si,m.tc,m.rest,x.ep,x.num,x.slot,x.till⟩:Tk)) k (b _)
 have q:((l.set k (⟨m.kind,⟨m.s.t,m.s.se,m.s.we⟩,m.si,m.tc,m.rest,m.ep,x.num,x.slot,x.till⟩:Tk)).flatMap tkV).set (k*11+8) (I J m.num)=((l.set k (⟨m.kind,⟨m.s.t,m.s.se,m.s.we⟩,m.si,m.tc,m.rest,m.ep,x.num,x.slot,x.till⟩:Tk)).set k (⟨m.kind,⟨m.s.t,m.s.se,m.s.we⟩,m.si,m.tc,m.rest,m.ep,m.num,x.slot,x.till⟩:Tk)).flatMap tkV:=qR (f:=tkV) (k:=11) (a:=(⟨m.kind,⟨m.s.t,m.s.se,m.s.we⟩,m.si,m.tc,m.rest,m.ep,x.num,x.slot,x.till⟩:Tk)) (a':=(⟨m.kind,⟨m.s.t,m.s.se,m.s.we⟩,m.si,m.tc,m.rest,m.ep,m.num,x.slot,x.till⟩:Tk)) qG (by omega) rfl (l.set k (⟨m.kind,⟨m.s.t,m.s.se,m.s.we⟩,m.si,m.tc,m.rest,m.ep,x.num,x.slot,x.till⟩:Tk)) k (b _)
 have r:((l.set k (⟨m.kind,⟨m.s.t,m.s.se,m.s.we⟩,m.si,m.tc,m.rest,m.ep,m.num,x.slot,x.till⟩:Tk)).flatMap tkV).set (k*11+9) (I J m.slot)=((l.set k (⟨m.kind,⟨m.s.t,m.s.se,m.s.we⟩,m.si,m.tc,m.rest,m.ep,m.num,x.slot,x.till⟩:Tk)).set k (⟨m.kind,⟨m.s.t,m.s.se,m.s.we⟩,m.si,m.tc,m.rest,m.ep,m.num,m.slot,x.till⟩:Tk)).flatMap tkV:=qR (f:=tkV) (k:=11) (a:=(⟨m.kind,⟨m.s.t,m.s.se,m.s.we⟩,m.si,m.tc,m.rest,m.ep,m.num,x.slot,x.till⟩:Tk)) (a':=(⟨m.kind,⟨m.s.t,m.s.se,m.s.we⟩,m.si,m.tc,m.rest,m.ep,m.num,m.slot,x.till⟩:Tk)) qG (by omega) rfl (l.set k (⟨m.kind,⟨m.s.t,m.s.se,m.s.we⟩,m.si,m.tc,m.rest,m.ep,m.num,x.slot,x.till⟩:Tk)) k (b _)
 have c:((l.set k (⟨m.kind,⟨m.s.t,m.s.se,m.s.we⟩,m.si,m.tc,m.rest,m.ep,m.num,m.slot,x.till⟩:Tk)).flatMap tkV).set (k*11+10) (I J m.till)=((l.set k (⟨m.kind,⟨m.s.t,m.s.se,m.s.we⟩,m.si,m.tc,m.rest,m.ep,m.num,m.slot,x.till⟩:Tk)).set k (⟨m.kind,⟨m.s.t,m.s.se,m.s.we⟩,m.si,m.tc,m.rest,m.ep,m.num,m.slot,m.till⟩:Tk)).flatMap tkV:=qR (f:=tkV) (k:=11) (a:=(⟨m.kind,⟨m.s.t,m.s.se,m.s.we⟩,m.si,m.tc,m.rest,m.ep,m.num,m.slot,x.till⟩:Tk)) (a':=(⟨m.kind,⟨m.s.t,m.s.se,m.s.we⟩,m.si,m.tc,m.rest,m.ep,m.num,m.slot,m.till⟩:Tk)) qG (by omega) rfl (l.set k (⟨m.kind,⟨m.s.t,m.s.se,m.s.we⟩,m.si,m.tc,m.rest,m.ep,m.num,m.slot,x.till⟩:Tk)) k (b _)
 rw[show k*11=k*11+0 from rfl,e]
 rw[g,List.set_set]
 rw[h,List.set_set]
 rw[i,List.set_set]
 rw[j,List.set_set]
 rw[n,List.set_set]
 rw[o,List.set_set]
 rw[p,List.set_set]
 rw[q,List.set_set]
 rw[r,List.set_set]
 rw[c,List.set_set]
theorem zkZ{w:S}{B g n cap:Nat}{l:List Tk}(h:w.ownsRow B 51 11 (.slice (O ⟨g,0,E⟩) n cap) n (l.flatMap tkV))(hn:l.length=n){k:Nat}{x m:Tk}(a:l[k]?=O x):(((((((((((w.setCell ⟨g,k*11,E⟩ (I J m.kind)).setCell ⟨g,k*11+1,E⟩ (I J m.s.t)).setCell ⟨g,k*11+2,E⟩ (I J m.s.se)).setCell ⟨g,k*11+3,E⟩ (I J m.s.we)).setCell ⟨g,k*11+4,E⟩ (I J m.si)).setCell ⟨g,k*11+5,E⟩ (I J m.tc)).setCell ⟨g,k*11+6,E⟩ (I J m.rest)).setCell ⟨g,k*11+7,E⟩ (I J m.ep)).setCell ⟨g,k*11+8,E⟩ (I J m.num)).setCell ⟨g,k*11+9,E⟩ (I J m.slot)).setCell ⟨g,k*11+10,E⟩ (I J m.till)).ownsRow B 51 11 (.slice (O ⟨g,0,E⟩) n cap) n ((l.set k m).flatMap tkV):=by
 have b:k<l.length:=(List.getElem?_eq_some_iff.1 a).1
 rw[<-zlc (m:=m) a]
 exact kr (kr (kr (kr (kr (kr (kr (kr (kr (kr (kr (h) (by omega) _) (by omega) _) (by omega) _) (by omega) _) (by omega) _) (by omega) _) (by omega) _) (by omega) _) (by omega) _) (by omega) _) (by omega) _
theorem zlC{w:S}{g:Nat}(a:Nat)(m:Tk):zk (fun k=>k=g) w (((((((((((w.setCell ⟨g,a,E⟩ (I J m.kind)).setCell ⟨g,a+1,E⟩ (I J m.s.t)).setCell ⟨g,a+2,E⟩ (I J m.s.se)).setCell ⟨g,a+3,E⟩ (I J m.s.we)).setCell ⟨g,a+4,E⟩ (I J m.si)).setCell ⟨g,a+5,E⟩ (I J m.tc)).setCell ⟨g,a+6,E⟩ (I J m.rest)).setCell ⟨g,a+7,E⟩ (I J m.ep)).setCell ⟨g,a+8,E⟩ (I J m.num)).setCell ⟨g,a+9,E⟩ (I J m.slot)).setCell ⟨g,a+10,E⟩ (I J m.till)):=zn (i:=a+10) (zn (i:=a+9) (zn (i:=a+8) (zn (i:=a+7) (zn (i:=a+6) (zn (i:=a+5) (zn (i:=a+4) (zn (i:=a+3) (zn (i:=a+2) (zn (i:=a+1) (zn (i:=a) (zk.refl _ _) rfl) rfl) rfl) rfl) rfl) rfl) rfl) rfl) rfl) rfl) rfl
theorem Je(n j:Nat)(m:Tk):(List.replicate n m).flatMap tkV++(List.replicate j m).flatMap tkV=(List.replicate (n+j) m).flatMap tkV:=by
 rw[<-List.flatMap_append,List.replicate_append_replicate]
theorem YO(m:Tk){k j:Nat}(h:k<=j):((List.replicate j m).flatMap tkV).take (k*11)=(List.replicate k m).flatMap tkV:=by
 have e:(List.replicate j m).flatMap tkV=(List.replicate k m).flatMap tkV++(List.replicate (j-k) m).flatMap tkV:=by rw[Je];congr 2;omega
 rw[e,List.take_left' (by rw[zbO qG];simp)]
theorem Jf{n i j:Nat}(m:Tk)(a:i<n)(b:j<11):((List.replicate n m).flatMap tkV)[i*11+j]?=(tkV m)[j]?:=ql qG _ i m j (by simp[a]) b
theorem JG{w:S}{base n k cap size:Nat}{e:TypeId}{g:Nat}{xs:List Y}(h:w.ownsRow base e size (.slice (O ⟨g,0,E⟩) n cap) n xs)(p:k<=n):w.ownsRow base e size (.slice (O ⟨g,0,E⟩) k cap) k (xs.take (k*size)):=by
 obtain⟨s,c⟩:=h
 have t:k*size<=n*size:=Nat.mul_le_mul_right _ p
 rcases c with⟨c,_⟩|⟨r,l,b,hv,m,o,q,d,f,i⟩
 ·cases c
 ·injection hv with a _ j
  injection a with a
  injection a with a
  subst a
  subst j
  refine⟨by rw[List.length_take];omega,.inr ⟨g,cap,b,rfl,m,o,by omega,d,f,?_⟩⟩
  rw[<-i,List.take_take];congr 1;omega
theorem MkJ.alloc{X:Nat}{w:S}{u:Y}{k:Nat}{m:Int}(h:MkJ X w u k m)(o:Obj):MkJ X (w.alloc o) u k m:=World.ownsRow.alloc h o
theorem MkJ.app{X n k j cap:Nat}{w w':S}{u l:Y}{g:Nat}{m:Int}(i:MkJ X w u k m)(d:MkJ X w' (.slice (O ⟨g,0,E⟩) j cap) j m)(c:k<=j)(h:w.grownBy w' l.ownBlock)(a:l=.slice (O ⟨g,0,E⟩) n cap\/(g=w.1.size/\w.grownBy w' E))
  (s:∀b t f nl o,u=.slice (O ⟨b,0,E⟩) t f->l=.slice (O ⟨b,0,E⟩) nl o->f=o):MkJ X w' u k m:=by
 rcases i.2 with⟨rfl,rfl⟩|⟨b,f,p,rfl,r⟩
 ·exact World.ownsRow_nil _ _ _ _
 ·rcases a with a|⟨_,a⟩
  ·by_cases e:b=g
   ·have q:=s b _ f n cap rfl (e▸a)
    subst e
    subst q
    have:=JG d c
    rwa[YO _ c]at this
   ·exact World.ownsRow.kept i h (.inr (by rw[a];simp[Value.ownBlock,e]))
  ·exact World.ownsRow.kept i a (.inr (by simp[Value.ownBlock]))
theorem MkJ.of{X n j:Nat}{w:S}{v:Y}{m:Int}(h:w.ownsRow X 51 11 v (n+j) ((List.replicate n (zar m)).flatMap tkV++(List.replicate j (zar m)).flatMap tkV)):MkJ X w v (n+j) m:=by
 rw[Je]at h;exact h
theorem ZJ{u:Y}:∀c e b nl a,u=.slice (O ⟨c,0,E⟩) e b->u=.slice (O ⟨c,0,E⟩) nl a->b=a:=by
 intro c e b nl a f d;rw[f]at d;injection d
theorem Yy{X n j H:Nat}{o q r:S}{l:Y}{c b:Nat}{m:Int}(hv:MkJ X o l n m)(d:l=.slice (O ⟨c,0,E⟩) n b\/(c=H/\q.grownBy r E))(s:o.1.size<=H):
  ∀g k f nl e,(Value.slice (O ⟨c,0,E⟩) j b)=.slice (O ⟨g,0,E⟩) k f->l=.slice (O ⟨g,0,E⟩) nl e->f=e:=by
 intro g k f nl e p i
 injection p with a _ h
 injection a with a
 injection a with a
 subst a
 subst h
 rcases d with d|⟨d,_⟩
 ·rw[d]at i;injection i
 ·have:=(World.ownsRow.lt hv c (by rw[i];rfl)).2;omega
theorem Xy{X:Nat}{w w':S}{l:Y}{n:Nat}{m:Int}{o:Obj}(hv:MkJ X w l n m)(a:X<=w.1.size)(b:(w.alloc o).grownBy w' l.ownBlock):N X w w':=
 ((G _ _).alloc a _).grown b (by rw[zF];omega) (fun k c=>(World.ownsRow.lt hv k c).1)
section
variable {P:Program}
theorem YU(w:S)(t H:TypeId)(base:Nat)(e:TypeId)(i:TypeInfo)(z:Y)(size d:Nat)(V:P.underlying t=O (.slice e))(M:P.info? e=O i)(hz:i.zero=O z)
  (p:i.size=size) (hby:i.bytes=d) (X:z.cells.size=size) (T:0<size)
  (v:Y) (n:Nat) (xs:List Y) (f:w.ownsRow base e size v n xs)
  (ad:Addr) (m c:Nat) (a:List Y) (C:a.length=m*size) (hnews:∀j u,a[j]?=O u->w.cell? (ad.add j)=O u) (Z:∀u∈a,u.oneCell'=true)
  (hm:0<m) (h63:n+m<=maxLen) (hbytes:(n+m)*d<=140737488355328) (q:base<=w.1.size):
  ∃g cap w',(Builtin.append_ #[t,t] H #[v,.slice (O ad) m c]).run P w=.ok (.slice (O ⟨g,0,E⟩) (n+m) cap) w'/\
   w'.ownsRow base e size (.slice (O ⟨g,0,E⟩) (n+m) cap) (n+m) (xs++a)/\w.grownBy w' v.ownBlock/\(v=.slice (O ⟨g,0,E⟩) n cap\/(g=w.1.size/\w.grownBy w' E))/\g<w'.1.size:=by
 obtain⟨v',w',R,h2,h3,_,s⟩:=run_append_own_at (P:=P) w base t H e i z size d V M hz p hby X T v n xs f ad m c a C hnews Z h63 hbytes q
 obtain⟨g,cap,rfl,_,Q⟩:=h2.form (by omega)
 refine⟨g,cap,w',R,h2,h3,?_,Q⟩
 rcases f.2 with⟨rfl,_⟩|⟨B,h,x,rfl,hb,hg,a1,a0,K,a2⟩
 ·right
  rcases s with s|s
  ·cases s
  ·simp[Value.ownBlock]at s;exact⟨s,h3⟩
 ·subst p
  subst hby
  by_cases o:n+m<=h
  ·have y:n*i.size+a.length<=x.size:=by rw[C,K,<-Nat.add_mul];exact Nat.mul_le_mul_right _ o
   have l:=run_append_room (P:=P) w t H e i V M B n h x hg ad m c a C hnews Z o y
   rw[R]at l
   injection l with hv _
   injection hv with b _ W
   injection b with b
   injection b with b
   left
   rw[b,W]
  ·have F:n+m<=9223372036854775807:=by simp only[maxLen]at h63;omega
   have r:∀j u,xs[j]?=O u->w.cell? ((⟨B,0,E⟩:Addr).add j)=O u:=f.cells (g:=B) rfl
   have l:=run_append_grow (P:=P) w t H e i z V M hz ⟨B,0,E⟩ n h xs f.1 r ad m c a C hnews (by omega) (by omega) (growslice_fits (by omega) hbytes)
   rw[R]at l
   injection l with hv hw
   injection hv with b _ _
   injection b with b
   injection b with b
   right
   refine⟨b,?_⟩
   subst hw
   exact⟨rfl,rfl,rfl,by simp,fun k hk _=>Below.heap_alloc w.drew _ k hk⟩
theorem qT{w:S}{ops:Array Oper}{rest:List Oper}{o:Oper}{a:Act}{Q:Exit->Act->S->Prop}(r:o.guard=E)(s x:Operand)(t:TypeId)
  (Z:o.op=.call {callee:=.builtin .append,args:=#[s,x],argTypes:=#[t,t]})
  (base:Nat) (e:TypeId) (z:Y) (size c:Nat) (ht:P.underlying t=O (.slice e)) (d:(P.info? e).map (fun i=>(i.zero,i.size,i.bytes))=O (O z,size,c)) (C:z.cells.size=size) (B:0<size)
  (v:Y) (n:Nat) (xs:List Y) (hs:a.eval s=v) (l:w.ownsRow base e size v n xs)
  (p m:Nat) (b:List Y) (hx:a.eval x=.slice (O ⟨p,0,E⟩) m m) (q:w.1[p]?=O (.cells b.toArray e (0,0))) (W:b.length=m*size) (F:∀u∈b,u.oneCell'=true)
  (X:0<m) (hn:n+m<=maxLen) (hby:(n+m)*c<=140737488355328) (f:base<=w.1.size)
  (h:∀g cap w',w'.ownsRow base e size (.slice (O ⟨g,0,E⟩) (n+m) cap) (n+m) (xs++b)->w.grownBy w' v.ownBlock->(v=.slice (O ⟨g,0,E⟩) n cap\/(g=w.1.size/\w.grownBy w' E))->g<w'.1.size->wpList P ops Q rest (a.put o.dst (.slice (O ⟨g,0,E⟩) (n+m) cap)) w'):wpList P ops Q (o::rest) a w:=by
 cases y:P.info? e with
 |none=>simp[y]at d
 |some i=>
  simp only[y,Option.map_some,Option.some.injEq,Prod.mk.injEq]at d
  obtain⟨hz,j,k⟩:=d
  refine wpList_plain r fun K V=>?_
  obtain⟨g,cap,w',hr,H,M,R,T⟩:=YU (P:=P) w t o.type base e i z size c ht y hz j k C B v n xs l ⟨p,0,E⟩ m m b W (World.news_of_block (cs:=b.toArray) q) F X hn hby f
  unfold Oper.wp
  simp[execOp,Z,resolve,invoke,builtin,hs,hx,hr,Result.andThen]
  exact V _ _ (h g cap w' H M R T)
end
def RM.pressR(m:RM)(x:Tk):Int:=m.due x-(m.now-x.si).tdiv 4
def RM.aheadB(m:RM)(c:Bool)(a b:Tk):Bool:=if c=true/\a.kind≠b.kind then decide (a.kind=2)else if m.pressR a≠m.pressR b then decide (m.pressR a<m.pressR b)else xZ a b
theorem zkw(a b:Tk)(w:S):((w.alloc (yc a)).alloc (yc b)).1[w.1.size]?=O (yc a)/\((w.alloc (yc a)).alloc (yc b)).1[w.1.size+1]?=O (yc b)/\N w.1.size w ((w.alloc (yc a)).alloc (yc b))/\((w.alloc (yc a)).alloc (yc b)).1.size=w.1.size+2:=box2 w (yc a) (yc b)
theorem zgc{n s:Int}(a:0<=s)(b:s<=n)(c:n<=100000):0<=(n-s).tdiv 4/\(n-s).tdiv 4<=100000:=by
 rw[Int.tdiv_eq_ediv_of_nonneg (by omega)];omega
theorem zdF{B:Nat}{w:S}{p:Nat}{m:RM}{tv nv pv gv kv:Y}(h:zJ B w p m tv nv pv gv kv)(hc:m.c.ok)(Q:0<=m.now/\m.now<=100000)(a b:Tk)(ha:zgr m.c a.s)(hb:zgr m.c b.s)(ad:0<=a.si/\a.si<=m.now)(g:0<=b.si/\b.si<=m.now)(q:Bool):
  Calls prog 201 #[.pointer (O ⟨p,0,E⟩),tkA a,tkA b,.bool q] w fun e w'=>e=.returned (.bool (m.aheadB q a b))/\N w.1.size w w':=by
 obtain⟨i,j,ae,aj⟩:=zkw a b w
 obtain⟨a0,a1,a2,a3,a4,a5,a6,a7,a8,a9,ah⟩:=xG i
 obtain⟨b0,b1,b2,b3,b4,b5,b6,b7,b8,b9,ai⟩:=xG j
 have al:=zd i
 have bl:=zd j
 have hX:=h.later ae
 obtain⟨r7,-⟩:=hX.rest
 have z:=hX.lt
 have HX:=ze hX
 have K:=ze ae
 have v:=ze i
 have x:=ze j
 obtain⟨ax,ay⟩:=zgc ad.1 ad.2 Q.2
 obtain⟨az,aA⟩:=zgc g.1 g.2 Q.2
 obtain⟨ak,am⟩:=Ka hc ha
 obtain⟨an,ao⟩:=Ka hc hb
 obtain⟨ap,aq⟩:=ad
 obtain⟨y,ar⟩:=g
 obtain⟨av,aw⟩:=Q
 unfold yc at*
 clear h hX ae i j aj
 go_enter func201,ntmps201
 rcases Bool.eq_false_or_eq_true q with ht|ht
 ·subst ht
  by_cases hk:a.kind=b.kind
  ·have au:(a.kind !=b.kind)=false:=by simp[hk]
   have C:Hid (m.pressR a=m.pressR b->m.aheadB true a b=xZ a b):=fun e=>by unfold RM.aheadB;rw[if_neg (by simp[hk]),if_neg (by simp[e])]
   have F:Hid (¬m.pressR a=m.pressR b->m.aheadB true a b=decide (m.pressR a<m.pressR b)):=fun e=>by unfold RM.aheadB;rw[if_neg (by simp[hk]),if_pos e]
   have M:=fun W (hW:N _ _ W)=>ze (QC ((ud HX).later hW) hc a ha)
   clear hk
   go_wp2_with fail
   generalize((w.alloc (.cells #[I J a.kind,I J a.s.t,I J a.s.se,I J a.s.we,I J a.si,I J a.tc,I J a.rest,I J a.ep,I J a.num,I J a.slot,I J a.till] 239)).alloc (.cells #[I J b.kind,I J b.s.t,I J b.s.se,I J b.s.we,I J b.si,I J b.tc,I J b.rest,I J b.ep,I J b.num,I J b.slot,I J b.till] 239))=X at*
   have n:Nonempty (zm X.1.size X):=zm.some _ _
   have l:=fun(u:zm X.1.size X) b o h=>u.cell b o h
   go_wp2_with fail
   refine zh X.1.size (by kernel_rfl) (by kernel_rfl) ?_
   repeat(go_big_quiet_step (first
    |(go_at_call 223;exact Calls.later (A _) (ud (M _ (Subtype.property _))))))
   refine wpQuiet_nil ?_
   rintro⟨r,d⟩
   dsimp only
   clear l n M
   rw[show m.due a-(m.now-a.si).tdiv 4=m.pressR a from rfl]
   have i:=(d.block w.1.size al).trans (ud v)
   have j:=(d.block (w.1.size+1) bl).trans (ud x)
   obtain⟨s0,s1,s2,s3,s4,s5,s6,s7,s8,s9,T⟩:=xG (f:=a) i
   obtain⟨t0,t1,t2,t3,t4,t5,t6,t7,t8,t9,V⟩:=xG (f:=b) j
   have v:=ze i
   have x:=ze j
   have q7:=(d.cell (p:=⟨p,7,E⟩) z).trans r7
   have qp:=U z d.size
   have qa:=U al d.size
   have qb:=U bl d.size
   have H:=ze d
   have ac:=ze ((ud HX).later d)
   have P:=fun W (hW:N r.1.size r W)=>ze (QC ((ud ac).later hW) hc b hb)
   have n:Nonempty (zm r.1.size r):=zm.some _ _
   have l:=fun(u:zm r.1.size r) b o h=>u.cell b o h
   clear d a0 a1 a2 a3 a4 a5 a6 a7 a8 a9 ah b0 b1 b2 b3 b4 b5 b6 b7 b8 b9 ai al bl z r7 i j
   generalize af:m.pressR a=pa at*
   go_wp2_with fail
   refine zh r.1.size (by kernel_rfl) (by kernel_rfl) ?_
   repeat(go_big_quiet_step (first
    |(go_at_call 223;exact Calls.later (A _) (ud (P _ (Subtype.property _))))))
   refine wpQuiet_nil ?_
   rintro⟨w2,g⟩
   dsimp only
   clear l n P
   rw[show m.due b-(m.now-b.si).tdiv 4=m.pressR b from rfl]
   have i:=(g.block w.1.size qa).trans (ud v)
   have j:=(g.block (w.1.size+1) qb).trans (ud x)
   clear s0 s1 s2 s3 s4 s5 s6 s7 s8 s9 T t0 t1 t2 t3 t4 t5 t6 t7 t8 t9 V
   obtain⟨s0,s1,s2,s3,s4,s5,s6,s7,s8,s9,T⟩:=xG (f:=a) i
   obtain⟨t0,t1,t2,t3,t4,t5,t6,t7,t8,t9,V⟩:=xG (f:=b) j
   have va:=zd i
   have vb:=zd j
   have ab:=ze (Vn a b w2)
   have k:=ze ((ud K).trans (((ud H).trans (g.mono (ud H).size)).mono (ud K).size))
   generalize ag:m.pressR b=pb at*
   clear i j g af ag
   by_cases R:pa=pb
   ·have Z:=ze (ud C R)
    clear C
    go_wp2_with fail
    refine(ud ab).mono ?_
    rintro e w3 ⟨rfl,y⟩
    have aa:=ze ((ud k).trans (y.mono (ud k).size))
    clear y
    go_wp2_with fail
    go_ret
    exact⟨by rw[ud Z];rfl,ud aa⟩
   ·have Z:=ze (ud F R)
    clear F
    go_wp2_with fail
    go_ret
    exact⟨by rw[ud Z];rfl,ud k⟩
  ·have Z:Hid (m.aheadB true a b=decide (a.kind=2)):=by show m.aheadB true a b=_;unfold RM.aheadB;rw[if_pos ⟨rfl,hk⟩]
   go_wp2_with fail
   go_ret
   exact⟨by rw[ud Z];rfl,ud K⟩
 ·subst ht
  have C:Hid (m.pressR a=m.pressR b->m.aheadB false a b=xZ a b):=fun e=>by unfold RM.aheadB;rw[if_neg (by simp),if_neg (by simp[e])]
  have F:Hid (¬m.pressR a=m.pressR b->m.aheadB false a b=decide (m.pressR a<m.pressR b)):=fun e=>by unfold RM.aheadB;rw[if_neg (by simp),if_pos e]
  have M:=fun W (hW:N _ _ W)=>ze (QC ((ud HX).later hW) hc a ha)
  go_wp2_with fail
  generalize((w.alloc (.cells #[I J a.kind,I J a.s.t,I J a.s.se,I J a.s.we,I J a.si,I J a.tc,I J a.rest,I J a.ep,I J a.num,I J a.slot,I J a.till] 239)).alloc (.cells #[I J b.kind,I J b.s.t,I J b.s.se,I J b.s.we,I J b.si,I J b.tc,I J b.rest,I J b.ep,I J b.num,I J b.slot,I J b.till] 239))=X at*
  have n:Nonempty (zm X.1.size X):=zm.some _ _
  have l:=fun(u:zm X.1.size X) b o h=>u.cell b o h
  go_wp2_with fail
  refine zh X.1.size (by kernel_rfl) (by kernel_rfl) ?_
  repeat(go_big_quiet_step (first
   |(go_at_call 223;exact Calls.later (A _) (ud (M _ (Subtype.property _))))))
  refine wpQuiet_nil ?_
  rintro⟨r,d⟩
  dsimp only
  clear l n M
  rw[show m.due a-(m.now-a.si).tdiv 4=m.pressR a from rfl]
  have i:=(d.block w.1.size al).trans (ud v)
  have j:=(d.block (w.1.size+1) bl).trans (ud x)
  obtain⟨s0,s1,s2,s3,s4,s5,s6,s7,s8,s9,T⟩:=xG (f:=a) i
  obtain⟨t0,t1,t2,t3,t4,t5,t6,t7,t8,t9,V⟩:=xG (f:=b) j
  have v:=ze i
  have x:=ze j
  have q7:=(d.cell (p:=⟨p,7,E⟩) z).trans r7
  have qp:=U z d.size
  have qa:=U al d.size
  have qb:=U bl d.size
  have H:=ze d
  have ac:=ze ((ud HX).later d)
  have P:=fun W (hW:N r.1.size r W)=>ze (QC ((ud ac).later hW) hc b hb)
  have n:Nonempty (zm r.1.size r):=zm.some _ _
  have l:=fun(u:zm r.1.size r) b o h=>u.cell b o h
  clear d a0 a1 a2 a3 a4 a5 a6 a7 a8 a9 ah b0 b1 b2 b3 b4 b5 b6 b7 b8 b9 ai al bl z r7 i j
  generalize af:m.pressR a=pa at*
  go_wp2_with fail
  refine zh r.1.size (by kernel_rfl) (by kernel_rfl) ?_
  repeat(go_big_quiet_step (first
   |(go_at_call 223;exact Calls.later (A _) (ud (P _ (Subtype.property _))))))
  refine wpQuiet_nil ?_
  rintro⟨w2,g⟩
  dsimp only
  clear l n P
  rw[show m.due b-(m.now-b.si).tdiv 4=m.pressR b from rfl]
  have i:=(g.block w.1.size qa).trans (ud v)
  have j:=(g.block (w.1.size+1) qb).trans (ud x)
  clear s0 s1 s2 s3 s4 s5 s6 s7 s8 s9 T t0 t1 t2 t3 t4 t5 t6 t7 t8 t9 V
  obtain⟨s0,s1,s2,s3,s4,s5,s6,s7,s8,s9,T⟩:=xG (f:=a) i
  obtain⟨t0,t1,t2,t3,t4,t5,t6,t7,t8,t9,V⟩:=xG (f:=b) j
  have va:=zd i
  have vb:=zd j
  have ab:=ze (Vn a b w2)
  have k:=ze ((ud K).trans (((ud H).trans (g.mono (ud H).size)).mono (ud K).size))
  generalize ag:m.pressR b=pb at*
  clear i j g af ag
  by_cases R:pa=pb
  ·have Z:=ze (ud C R)
   clear C
   go_wp2_with fail
   refine(ud ab).mono ?_
   rintro e w3 ⟨rfl,y⟩
   have aa:=ze ((ud k).trans (y.mono (ud k).size))
   clear y
   go_wp2_with fail
   go_ret
   exact⟨by rw[ud Z];rfl,ud aa⟩
  ·have Z:=ze (ud F R)
   clear F
   go_wp2_with fail
   go_ret
   exact⟨by rw[ud Z];rfl,ud k⟩
theorem Tryz.infoJobs:(prog.info? 55).map (fun i=>(i.zero,i.size,i.bytes))=O (O (.slice E 0 0),1,24):=by kernel_rfl
theorem zlN{w:S}{g:Nat}{b c d e f i j k l m a:Y}{t:TypeId}{n:Nat×Nat}(h:w.1[g]?=O (.cells #[b,c,d,e,f,i,j,k,l,m,a] t n)):w.cell? ⟨g,0,E⟩=O b/\w.cell? ⟨g,1,E⟩=O c/\w.cell? ⟨g,2,E⟩=O d/\w.cell? ⟨g,3,E⟩=O e/\w.cell? ⟨g,4,E⟩=O f/\w.cell? ⟨g,5,E⟩=O i/\w.cell? ⟨g,6,E⟩=O j/\w.cell? ⟨g,7,E⟩=O k/\w.cell? ⟨g,8,E⟩=O l/\w.cell? ⟨g,9,E⟩=O m/\w.cell? ⟨g,10,E⟩=O a:=by
 refine⟨?_,?_,?_,?_,?_,?_,?_,?_,?_,?_,?_⟩<;>rw[zN h]<;>rfl
theorem zlD{X:Nat}{w w':S}(h:N X w w'):zk (fun k=>X<=k) w w':=⟨h.os,h.tape,h.output,h.size,fun k _ hn=>h.block k (by omega)⟩
theorem zbb(a b c d:Option Addr)(f g h i j k l m:Nat):∀u∈[Value.slice a f g,.slice b h i,.slice c j k,.slice d l m],u.oneCell'=true:=by
 intro u e;simp at e;rcases e with rfl|rfl|rfl|rfl<;>rfl
theorem JA{w:S}{wb:Nat}{pv f:Y}(h:w.1[wb]?=O (.cells #[pv,f] 63 (0,0))){B size n:Nat}{e:TypeId}{v:Y}{xs:List Y}(d:w.ownsRow B e size v n xs)(c:e≠63)(hv:v.ownBlock=O wb):False:=by
 obtain⟨b,a⟩:=zO d hv
 rw[h]at a
 injection a with a;injection a with _ a
 exact c a.symm
def Yp(m:Tk)(l:List Tk)(k:Nat):List Tk:=List.replicate k m++l.drop k
theorem zdv(m:Tk)(l:List Tk):Yp m l 0=l:=by simp[Yp]
theorem zfJ(m:Tk)(l:List Tk):Yp m l l.length=List.replicate l.length m:=by simp[Yp]
theorem zdu(m:Tk)(l:List Tk)(k:Nat)(h:k<l.length):Yp m l (k+1)=(Yp m l k).set k m:=by
 have e:(l.drop k).set 0 m=m::l.drop (k+1):=by rw[List.drop_eq_getElem_cons h];rfl
 unfold Yp
 rw[List.set_append_right _ _ (by simp),List.length_replicate,Nat.sub_self,e,List.replicate_succ',List.append_assoc]
 rfl
theorem Q9(m:Tk)(l:List Tk)(k:Nat)(h:k<=l.length):(Yp m l k).length=l.length:=by simp[Yp];omega
theorem zfK(m:Tk)(l:List Tk)(k:Nat)(h:k<l.length):∃x,(Yp m l k)[k]?=O x:=⟨_,List.getElem?_eq_getElem (by rw[Q9 m l k (by omega)];exact h)⟩
def zbY(B:Nat)(w:S)(wb:Nat)(pv c l:Y)(q:Nat)(w':S):Prop:=∃a b,Zc B w' a b (q+1)/\w'.1[wb]?=O (.cells #[pv,a] 63 (0,0))/\zk (fun k=>k=wb\/c.ownBlock=O k\/l.ownBlock=O k) w w'/\(∀k,a.ownBlock=O k->c.ownBlock=O k\/w.1.size<=k)
theorem zcY{B X:Nat}{w g x:S}{wb:Nat}{pv:Y}{an:Option Addr}{d:Nat}{t:List Y}{q:Nat}(h:Zc B w (.slice an t.length d) t q)(h4:t.length=4*q)(W:B<=X)(a9:wb<X)(ab:B<=wb)(Q:∀k,(Value.slice an (4*q) d).ownBlock=O k->k<X)(a0:∀v∈t,∀k,v.ownBlock=O k->k<X)(T:N X w g){l:Y}(kW:zk (fun k=>l.ownBlock=O k) w g)(a2:∀k,l.ownBlock=O k->X<=k)(zC:X<=g.1.size)(a8:g.1[wb]?=O (.cells #[pv,.slice an (4*q) d] 63 (0,0)))(a6:g.ownsRow B 55 1 (.slice an (4*q) d) (4*q) t)
  {C:Int} (a4:(q:Int)+10=C) {n na nb nc:Nat} (hn:n<=1000000/\na<=1000000/\nb<=1000000/\nc<=1000000) {a b c:Y} (mL:MkJ X g l n C) (mA:MkJ X g a na C) (mB:MkJ X g b nb C) (mC:MkJ X g c nc C)
  (Z:zk (fun k=>(Value.slice an (4*q) d).ownBlock=O k) g x) (R:x.1[wb]?=O (.cells #[pv,.slice an (4*q) d] 63 (0,0))) {y f:Nat} (on:x.ownsRow B 55 1 (.slice (O ⟨y,0,E⟩) (4*q+4) f) (4*q+4) (t++[l,a,b,c])) {o:Obj} (Dn:Value.slice an (4*q) d=.slice (O ⟨y,0,E⟩) (4*q) f\/(y=(g.alloc o).1.size/\(g.alloc o).grownBy x E)):
  zbY B w wb pv (.slice an (4*q) d) l q (x.setCell ⟨wb,1,E⟩ (.slice (O ⟨y,0,E⟩) (4*q+4) f)):=by
 have P:zk (fun k=>k=wb) x (x.setCell ⟨wb,1,E⟩ (.slice (O ⟨y,0,E⟩) (4*q+4) f)):=zn (zk.refl _ _) rfl
 have K:zk (fun k=>k=wb\/(Value.slice an (4*q) d).ownBlock=O k) g (x.setCell ⟨wb,1,E⟩ (.slice (O ⟨y,0,E⟩) (4*q+4) f)):=(Z.mono (fun _ _ e=> .inr e)).trans (P.mono (fun _ _ e=> .inl e)) (fun _ _ e=>e)
 have M:zk (fun k=>k=wb\/(Value.slice an (4*q) d).ownBlock=O k\/l.ownBlock=O k) w (x.setCell ⟨wb,1,E⟩ (.slice (O ⟨y,0,E⟩) (4*q+4) f)):=(kW.mono (fun _ _ e=> .inr (.inr e))).trans K (fun _ _ e=>e.elim .inl (fun e=> .inr (.inl e)))
 have p:∀(u:Y) (j:Nat),MkJ X g u j C->MkJ B (x.setCell ⟨wb,1,E⟩ (.slice (O ⟨y,0,E⟩) (4*q+4) f)) u j C:=fun u j hu=>yE (zi hu K (fun k s e=>by
  have h1:=(World.ownsRow.lt hu k s).1
  rcases e with e|e
  ·omega
  ·have:=Q k e;omega)) W
 refine⟨_,t++[l,a,b,c],⟨?_,?_,fun j v m=>?_⟩,xm (i:=1) R _,M,fun k s=>?_⟩
 ·have:=zi on P (fun k s e=>by
   subst e
   exact JA R on (by decide) s)
  rw[List.length_append,h4]
  exact this
 ·rw[List.length_append,h4];simp;omega
 ·by_cases a3:j<t.length
  ·rw[List.getElem?_append_left a3]at m
   obtain⟨n',a5,F⟩:=h.marks j v m
   have hv:=List.mem_of_getElem? m
   refine⟨n',a5,zi F M (fun k s e=>?_)⟩
   rcases e with e|e|e
   ·subst e
    have a7:w.1[k]?=g.1[k]?:=(T.block k a9).symm
    obtain⟨V,z⟩:=zO F s
    rw[a7,a8]at z
    injection z with z;injection z with _ z
    exact absurd z (by decide)
   ·have a1:=Q k e
    obtain⟨V,z⟩:=zO F s
    obtain⟨aa,r⟩:=zO a6 e
    rw[T.block k a1,z]at r
    injection r with r;injection r with _ r
    exact absurd r (by decide)
   ·have:=a0 v hv k s;have:=a2 k e;omega
  ·rw[List.getElem?_append_right (by omega)]at m
   have H:j-t.length<4:=(List.getElem?_eq_some_iff.1 m).1
   have hq:((j/4:Nat):Int)+10=C:=by rw[<-a4];omega
   rw[hq]
   obtain⟨i,hi⟩:∃i,j-t.length=i:=⟨_,rfl⟩
   rw[hi]at m H
   match i,H with
   |0,_=>simp at m;subst m;exact⟨n,hn.1,p _ _ mL⟩
   |1,_=>simp at m;subst m;exact⟨na,hn.2.1,p _ _ mA⟩
   |2,_=>simp at m;subst m;exact⟨nb,hn.2.2.1,p _ _ mB⟩
   |3,_=>simp at m;subst m;exact⟨nc,hn.2.2.2,p _ _ mC⟩
 ·simp[Value.ownBlock]at s
  subst s
  rcases Dn with e|⟨e,_⟩
  ·left;rw[e];rfl
  ·right
   have:=T.size
   rw[e,zF];omega
theorem zfh{B X:Nat}{w:S}{wb:Nat}{pv lv:Y}{kn:List Y}{q:Nat}(hw:w.1[wb]?=O (.cells #[pv,lv] 63 (0,0)))(h:Zc B w lv kn q)(ao:B<=X)(W:X<=w.1.size)(ac:wb<X)(az:B<=wb)(a0:∀k,lv.ownBlock=O k->k<X)(aq:∀v∈kn,∀k,v.ownBlock=O k->k<X)(ts:List Tk)(l:Y)(hl:w.ownsRow X 51 11 l ts.length (ts.flatMap tkV))(aL:ts.length<=900)(hn:q+1<=1099511627776):
  Calls prog 111 #[.pointer (O ⟨wb,0,E⟩),l] w fun e w'=>e=.returned (.tuple #[])/\zbY B w wb pv lv l q w':=by
 obtain⟨an,r,rfl⟩:=zq h.row
 obtain⟨c,a,rfl⟩:=zq hl
 have h4:=h.four
 have V:w.ownsRow B 55 1 (.slice an (4*q) r) (4*q) kn:=by rw[<-h4];exact h.row
 have H:=h.marks
 rw[h4]at hw a0 ⊢
 obtain⟨-,c1,-⟩:=zc hw
 have aM:=zd hw
 have aJ:(4*(q:Int)).tdiv 4=(q:Int):=by rw[Int.tdiv_eq_ediv_of_nonneg (by omega)];omega
 obtain⟨b,ab⟩:∃b:Int,(q:Int)+10=b:=⟨_,rfl⟩
 have ah:=ze (zo w (.cells #[I J b,I J 0,I J 0,I J 0,I J 0,I J 0,I J 0,I J 0,I J 0,I J 0,I J 0] 51))
 have z:Hid (N w.1.size w (w.alloc (.cells #[I J b,I J 0,I J 0,I J 0,I J 0,I J 0,I J 0,I J 0,I J 0,I J 0,I J 0] 51))):=(G _ _).alloc (A _) _
 have aG:=ze (zF w (.cells #[I J b,I J 0,I J 0,I J 0,I J 0,I J 0,I J 0,I J 0,I J 0,I J 0,I J 0] 51))
 have ak:=ze ab
 have HH:=ze h
 have HW:=ze hw
 have a6:=ze V
 have H4:=ze h4
 have C:=ze hl
 clear h V hl h4 H
 go_enter func111,ntmps111
 go_wp2_with fail
 clear ab
 generalize(w.alloc (.cells #[I J b,I J 0,I J 0,I J 0,I J 0,I J 0,I J 0,I J 0,I J 0,I J 0,I J 0] 51))=V0 at*
 have ar:=World.ownsRow.alloc (ud C) (.cells #[I J b,I J 0,I J 0,I J 0,I J 0,I J 0,I J 0,I J 0,I J 0,I J 0,I J 0] 51)
 have aa:V0.ownsRow X 51 11 (.slice c ts.length a) ts.length (ts.flatMap tkV):=zi (ud C) (zk.of_below (f:=fun _=>False) (ud z)) (fun _ _ h=>h)
 clear ar
 go_loopw [5] (fun y wr=>∃(k:Nat),k<=ts.length/\y=I J k/\wr.ownsRow X 51 11 (.slice c ts.length a) ts.length ((Yp (zar b) ts k).flatMap tkV)/\zk (fun k=>(Value.slice c ts.length a).ownBlock=O k) V0 wr) (fun y _=>ts.length-(intOf y).toNat)
 case atStart=>exact⟨0,L _,rfl,by rw[zdv];exact aa,zk.refl _ _⟩
 case round=>
  obtain⟨k,hk,rfl,hv,n⟩:=hrel
  have M:¬(Value.slice c ts.length a).ownBlock=O w.1.size:=fun e=>by have:=((ud C).lt _ e).2;omega
  have K:=n.heap (ud ah) M
  obtain⟨n0,n1,n2,n3,n4,n5,n6,n7,n8,n9,aO⟩:=zlN K
  have aK:=zd K
  by_cases a2:k<ts.length
  ·obtain⟨g,aE,av,aH,aI⟩:=hv.form (by omega)
   injection av with aw ax ay
   subst aw
   obtain⟨x,hx⟩:=zfK (zar b) ts k a2
   have au:=Q9 (zar b) ts k hk
   have o:∀j,j<11->wr.cell? ⟨g,k*11+j,E⟩=(tkV x)[j]?:=fun j hj=>by
    rw[hv.cellAt _ (by omega)]
    exact ql qG _ k x j hx hj
   have x0:wr.cell? ⟨g,k*11,E⟩=O (I J x.kind):=o 0 (by omega)
   have x1:wr.cell? ⟨g,k*11+1,E⟩=O (I J x.s.t):=o 1 (by omega)
   have x2:wr.cell? ⟨g,k*11+2,E⟩=O (I J x.s.se):=o 2 (by omega)
   have x3:wr.cell? ⟨g,k*11+3,E⟩=O (I J x.s.we):=o 3 (by omega)
   have x4:wr.cell? ⟨g,k*11+4,E⟩=O (I J x.si):=o 4 (by omega)
   have x5:wr.cell? ⟨g,k*11+5,E⟩=O (I J x.tc):=o 5 (by omega)
   have x6:wr.cell? ⟨g,k*11+6,E⟩=O (I J x.rest):=o 6 (by omega)
   have x7:wr.cell? ⟨g,k*11+7,E⟩=O (I J x.ep):=o 7 (by omega)
   have x8:wr.cell? ⟨g,k*11+8,E⟩=O (I J x.num):=o 8 (by omega)
   have x9:wr.cell? ⟨g,k*11+9,E⟩=O (I J x.slot):=o 9 (by omega)
   have aT:wr.cell? ⟨g,k*11+10,E⟩=O (I J x.till):=o 10 (by omega)
   have xf:=fun j=>hv.frozenAt j
   have a9:(k:Int)<ts.length:=by omega
   have U1:=ze (zkZ (m:=zar b) hv au hx)
   have ae:=ze (n.trans (zlC (w:=wr) (g:=g) (k*11) (zar b)) (fun j _ e=>by rw[e];rfl))
   have ap:¬g=w.1.size:=fun e=>M (by rw[<-e];rfl)
   have aF:¬w.1.size=g:=fun e=>ap e.symm
   rw[<-zdu (zar b) ts k a2]at U1
   clear ax ay hx o hv n
   go_wp2_with fail
   exact⟨⟨k+1,by omega,by go_num,ud U1,ud ae⟩,by simp[intOf];omega⟩
  ·have e:k=ts.length:=by omega
   subst e
   rw[zfJ]at hv
   have hv:MkJ X wr (.slice c ts.length a) ts.length b:=hv
   have a1:∀k,(Value.slice c ts.length a).ownBlock=O k->X<=k:=fun k e=>((ud C).lt k e).1
   have Z:N X w wr:=((ud z).mono W).trans (n.below (D W (ud z).size) a1)
   have a7:X<=wr.1.size:=D W Z.size
   have ad:=ze Z
   have af:=ze ((zk.of_below (f:=fun k=>(Value.slice c ts.length a).ownBlock=O k) (ud z)).trans n (fun _ _ e=>e))
   have ag:=ze a1
   have aj:=ze K
   have a9:¬(ts.length:Int)<ts.length:=by omega
   clear n a2 hk Z K aa a1
   go_wp2_with(first
    |(at_builtin;refine qT rfl _ _ 55 rfl X 51 _ 11 88 underlying55 Tryz.infoJobR rfl (by decide) (.slice c ts.length a) ts.length ((List.replicate ts.length (zar b)).flatMap tkV) rfl (MkJ.alloc hv _) wr.1.size 1 ((List.replicate 1 (zar b)).flatMap tkV) rfl (zo _ _) rfl (vZ XS _) (by decide) ?h1 ?h2 ?h3 ?_;(case h1=>(simp only[maxLen];omega));(case h2=>omega);(case h3=>(rw[zF];omega));intro ga i wa oa ra Da la;have mA:MkJ X wa (.slice (O ⟨ga,0,E⟩) (ts.length+1) i) (ts.length+1) b:=MkJ.of oa;have Q:MkJ X wa (.slice c ts.length a) ts.length b:=(MkJ.alloc hv _).app mA (by omega) ra Da ZJ;have bA:N X wr wa:=Xy hv a7 ra;have zA:X<=wa.1.size:=D a7 bA.size;have kA:=((zk.refl (fun k=>(Value.slice c ts.length a).ownBlock=O k) wr).alloc _).grown ra (fun k e _=>e);have KA:=ze kA;have F:=kA.heap (ud aj) M;clear kA;obtain⟨p0,p1,p2,p3,p4,p5,p6,p7,p8,p9,aP⟩:=zlN F;have pl:=zd F;have ai:=ze F;clear F)
    |(at_builtin;refine qT rfl _ _ 55 rfl X 51 _ 11 88 underlying55 Tryz.infoJobR rfl (by decide) (.slice c ts.length a) ts.length ((List.replicate ts.length (zar b)).flatMap tkV) rfl (MkJ.alloc Q _) wa.1.size 2 ((List.replicate 2 (zar b)).flatMap tkV) rfl (zo _ _) rfl (vZ XS _) (by decide) ?h1 ?h2 ?h3 ?_;(case h1=>(simp only[maxLen];omega));(case h2=>omega);(case h3=>(rw[zF];omega));intro gb p d ob rb Db lb;have mB:MkJ X d (.slice (O ⟨gb,0,E⟩) (ts.length+2) p) (ts.length+2) b:=MkJ.of ob;have a5:MkJ X d (.slice c ts.length a) ts.length b:=(MkJ.alloc Q _).app mB (by omega) rb Db ZJ;have aA:MkJ X d (.slice (O ⟨ga,0,E⟩) (ts.length+1) i) (ts.length+1) b:=(MkJ.alloc mA _).app mB (by omega) rb Db (Yy hv Da (by rw[zF];omega));have bB:N X wa d:=Xy Q zA rb;have zB:X<=d.1.size:=D zA bB.size;have kB:=((zk.refl (fun k=>(Value.slice c ts.length a).ownBlock=O k) wa).alloc _).grown rb (fun k e _=>e);have KB:=ze kB;have a3:=kB.heap (ud ai) M;clear kB;obtain⟨r0,r1,r2,r3,r4,r5,r6,r7,r8,r9,aQ⟩:=zlN a3;have rl:=zd a3;clear a3)
    |(at_builtin;refine qT rfl _ _ 55 rfl X 51 _ 11 88 underlying55 Tryz.infoJobR rfl (by decide) (.slice c ts.length a) ts.length ((List.replicate ts.length (zar b)).flatMap tkV) rfl (MkJ.alloc a5 _) d.1.size 3 ((List.replicate 3 (zar b)).flatMap tkV) rfl (zo _ _) rfl (vZ XS _) (by decide) ?h1 ?h2 ?h3 ?_;(case h1=>(simp only[maxLen];omega));(case h2=>omega);(case h3=>(rw[zF];omega));intro gc T R oc rc Dc lc;have mC:MkJ X R (.slice (O ⟨gc,0,E⟩) (ts.length+3) T) (ts.length+3) b:=MkJ.of oc;have aD:MkJ X R (.slice c ts.length a) ts.length b:=(MkJ.alloc a5 _).app mC (by omega) rc Dc ZJ;have aB:MkJ X R (.slice (O ⟨ga,0,E⟩) (ts.length+1) i) (ts.length+1) b:=(MkJ.alloc aA _).app mC (by omega) rc Dc (Yy hv Da (by rw[zF];omega));have aC:MkJ X R (.slice (O ⟨gb,0,E⟩) (ts.length+2) p) (ts.length+2) b:=(MkJ.alloc mB _).app mC (by omega) rc Dc (Yy Q Db (by rw[zF];omega));have bC:N X d R:=Xy a5 zB rc;have KC:=ze (((zk.refl (fun k=>(Value.slice c ts.length a).ownBlock=O k) d).alloc _).grown rc (fun k e _=>e));have zC:X<=R.1.size:=D zB bC.size;have bW:N X w R:=(((ud ad).trans bA).trans bB).trans bC;have u:=(bW.block wb ac).trans (ud HW);have a4:=zi (ud a6) (zlD bW) (fun k e hx=>by have:=a0 k e;omega);obtain⟨-,e1,-⟩:=zc u;have aR:=zd u)
    |(at_builtin;refine qT rfl _ _ 61 rfl B 55 _ 1 24 underlying61 Tryz.infoJobs rfl (by decide) (.slice an (4*q) r) (4*q) kn rfl (World.ownsRow.alloc a4 _) R.1.size 4 [(.slice c ts.length a),(.slice (O ⟨ga,0,E⟩) (ts.length+1) i),(.slice (O ⟨gb,0,E⟩) (ts.length+2) p),(.slice (O ⟨gc,0,E⟩) (ts.length+3) T)] rfl (zo _ _) rfl (zbb _ _ _ _ _ _ _ _ _ _ _ _) (by decide) ?h1 ?h2 ?h3 ?_;(case h1=>(simp only[maxLen];omega));(case h2=>omega);(case h3=>(rw[zF];omega));intro gn am wn on rn Dn aN;have a8:zk (fun k=>(Value.slice an (4*q) r).ownBlock=O k) R wn:=((zk.refl _ _).alloc _).grown rn (fun k e _=>e);have P:=a8.heap u (fun e=>JA u a4 (by decide) e);obtain⟨-,f1,-⟩:=zc P;have ff:∀j,wn.frozen? ⟨wb,j,E⟩=false:=(fun j=>zD P j);have aS:=zd P)
    |fail)
   go_end0
   exact⟨rfl,zcY (ud HH) (ud H4) ao ac az a0 aq bW ((((ud af).trans (ud KA) (fun _ _ e=>e)).trans (ud KB) (fun _ _ e=>e)).trans (ud KC) (fun _ _ e=>e)) (ud ag) zC u a4 (ud ak) (by omega) aD aB aC mC a8 P on Dn⟩
def RM.freeT(m:RM)(x:Tk):Bool:=decide (x.slot<0)&&decide (x.rest<=m.now)
def RM.betterI(m:RM)(b:Option Nat)(i:Nat):Option Nat:=match m.tg[i]? with
 |none=>b
 |some x=>if m.freeT x=true then match b with
  |none=>O i
  |some j=>match m.tg[j]? with
   |none=>b
   |some y=>if m.aheadB m.tight x y=true then O i else b
  else b
def RM.bestI(m:RM)(k:Nat):Option Nat:=(List.range k).foldl m.betterI E
theorem jQ(m:RM)(k:Nat):m.bestI (k+1)=m.betterI (m.bestI k) k:=by
 unfold RM.bestI;rw[List.range_succ,List.foldl_append];rfl
theorem QK{m:RM}{b:Option Nat}{i:Nat}{x:Tk}(h:m.tg[i]?=O x)(a:m.freeT x=false):m.betterI b i=b:=by
 unfold RM.betterI;rw[h];simp[a]
theorem jC{m:RM}{i:Nat}{x:Tk}(h:m.tg[i]?=O x)(a:m.freeT x=true):m.betterI E i=O i:=by
 unfold RM.betterI;rw[h];simp[a]
theorem K7{m:RM}{i j:Nat}{x y:Tk}(h:m.tg[i]?=O x)(a:m.freeT x=true)(b:m.tg[j]?=O y):m.betterI (O j) i=if m.aheadB m.tight x y=true then O i else O j:=by
 unfold RM.betterI;rw[h];simp[a,b]
theorem ZT(m:RM):∀(k:Nat) {j:Nat},m.bestI k=O j->j<k/\∃x,m.tg[j]?=O x/\m.freeT x=true
 |0,j,h=>by simp[RM.bestI]at h
 |k+1,j,h=>by
  rw[jQ]at h
  have c:=fun{j}=>ZT m k (j:=j)
  unfold RM.betterI at h
  split at h
  ·obtain⟨a,b⟩:=c h;exact⟨by omega,b⟩
  ·rename_i x hx
   split at h
   ·rename_i hf
    split at h
    ·cases h;exact⟨by omega,x,hx,hf⟩
    ·rename_i j' hj'
     split at h
     ·obtain⟨a,b⟩:=c h;exact⟨by omega,b⟩
     ·split at h
      ·cases h;exact⟨by omega,x,hx,hf⟩
      ·obtain⟨a,b⟩:=c h;exact⟨by omega,b⟩
   ·obtain⟨a,b⟩:=c h;exact⟨by omega,b⟩
def Tk.leased(ep num slot till:Int)(x:Tk):Tk:={x with ep:=ep,num:=num,slot:=slot,till:=till}
def ju:Tk:=⟨0,⟨0,0,0⟩,0,0,0,0,0,0,0⟩
def RM.pick(m:RM)(slot:Int):RM×Tk×Int:=if slot<0\/m.c.s<=slot then(m,ju,6)else if m.tg.any (fun x=>x.slot==slot)=true then(m,ju,6)else match m.bestI m.tg.length with
 |none=>(m,ju,7)
 |some j=>({m with picks:=m.picks+1,tg:=m.tg.modify j (Tk.leased m.epoch (m.picks+1) slot (m.now+m.c.le))},Tk.leased m.epoch (m.picks+1) slot (m.now+m.c.le) ((m.tg[j]?).getD ju),0)
theorem zdf{B:Nat}{w:S}{wb:Nat}{pv lv:Y}{z:List Y}{q:Nat}(hw:w.1[wb]?=O (.cells #[pv,lv] 63 (0,0)))(h:Zc B w lv z q)(hq:q<=1099511627776):
  Calls prog 22 #[.pointer (O ⟨wb,0,E⟩)] w fun e w'=>e=.returned (.bool true)/\N w.1.size w w':=by
 obtain⟨an,a7,rfl⟩:=zq h.row
 have h4:=h.four
 have ab:z.length<=4398046511104:=by omega
 have o:=h.row
 have b:=h.marks
 generalize hK:z.length=K at*
 obtain⟨-,c1,-⟩:=zc hw
 have f:=zd hw
 have g:=ze o
 have M:=ze b
 have H:=ze hK
 clear h hw o b h4 hK hq
 go_enter func22,ntmps22
 go_wp2_with fail
 go_loopw [2,3] (fun _ y wr=>∃(k:Nat),k<=K/\y=I J k/\N w.1.size w wr) (fun _ y _=>K-(intOf y).toNat)
 case atStart=>exact⟨0,L _,rfl,G _ _⟩
 case round=>
  obtain⟨k,hk,rfl,l⟩:=hrel
  have cr:=(l.cell (p:=⟨wb,1,E⟩) f).trans c1
  have ae:=U f l.size
  by_cases W:k<K
  ·obtain⟨v,hx⟩:∃v,z[k]?=O v:=⟨_,List.getElem?_eq_getElem (by rw[ud H];exact W)⟩
   obtain⟨n,hn,hv⟩:=ud M k v hx
   obtain⟨R,P,Z,-,d⟩:=(ud g).form (by omega)
   injection Z with a0 a1 a2
   subst a0
   obtain⟨av,s,rfl⟩:=zq hv
   have t:w.cell? ⟨R,k,E⟩=O (.slice av n s):=by rw[(ud g).cellAt _ (by omega)];exact hx
   have d1:=(l.cell (p:=⟨R,k,E⟩) d).trans t
   have aa:=U d l.size
   have u:(k:Int)<K:=by omega
   obtain⟨C,X⟩:∃C:Int,(k:Int)/4+10=C:=⟨_,rfl⟩
   have m:(k:Int)/4=((k/4:Nat):Int):=by omega
   rw[<-m,X]at hv
   have HV:=ze hv
   have F:=ze l
   clear hx a1 a2 m hv l
   go_wp2_with fail
   go_loopw [4] (fun y wq=>∃(j:Nat),j<=n/\y=I J j/\N w.1.size w wq) (fun y _=>n-(intOf y).toNat)
   case atStart=>exact⟨0,L _,rfl,ud F⟩
   case round=>
    obtain⟨j,hj,rfl,a⟩:=hrel
    have cq:=(a.cell (p:=⟨wb,1,E⟩) f).trans c1
    have dq:=(a.cell (p:=⟨R,k,E⟩) d).trans t
    have ad:=U f a.size
    have a9:=U d a.size
    have r:=ze a
    by_cases T:j<n
    ·obtain⟨gv,Q,a3,-,x⟩:=(ud HV).form (by omega)
     injection a3 with a4 a5 a6
     subst a4
     have c:∀i,i<11->wr.cell? ⟨gv,j*11+i,E⟩=(tkV (zar C))[i]?:=fun i hi=>by
      rw[a.cell (p:=⟨gv,j*11+i,E⟩) x,(ud HV).cellAt _ (by omega)]
      exact Jf _ T hi
     have d0:wr.cell? ⟨gv,j*11,E⟩=O (I J C):=c 0 (by omega)
     have d1:wr.cell? ⟨gv,j*11+1,E⟩=O (I J 0):=c 1 (by omega)
     have d2:wr.cell? ⟨gv,j*11+2,E⟩=O (I J 0):=c 2 (by omega)
     have d3:wr.cell? ⟨gv,j*11+3,E⟩=O (I J 0):=c 3 (by omega)
     have d4:wr.cell? ⟨gv,j*11+4,E⟩=O (I J 0):=c 4 (by omega)
     have d5:wr.cell? ⟨gv,j*11+5,E⟩=O (I J 0):=c 5 (by omega)
     have d6:wr.cell? ⟨gv,j*11+6,E⟩=O (I J 0):=c 6 (by omega)
     have d7:wr.cell? ⟨gv,j*11+7,E⟩=O (I J 0):=c 7 (by omega)
     have d8:wr.cell? ⟨gv,j*11+8,E⟩=O (I J 0):=c 8 (by omega)
     have d9:wr.cell? ⟨gv,j*11+9,E⟩=O (I J 0):=c 9 (by omega)
     have a8:wr.cell? ⟨gv,j*11+10,E⟩=O (I J 0):=c 10 (by omega)
     have V:(j:Int)<n:=by omega
     have ac:=U x a.size
     clear a5 a6 c a
     go_wp2_with fail
     exact⟨⟨j+1,by omega,by go_num,ud r⟩,by simp[intOf];omega⟩
    ·have V:¬(j:Int)<n:=by omega
     clear a
     go_wp2_with fail
     exact⟨⟨k+1,by omega,by go_num,ud r⟩,by simp[intOf];omega⟩
  ·have u:¬(k:Int)<K:=by omega
   have F:=ze l
   clear l
   go_wp2_with fail
   go_ret
   exact⟨rfl,ud F⟩
theorem zgk{B B':Nat}{w:S}{u v:Y}{ts:List Tk}(m:w.ownsRow B 51 11 u ts.length (ts.flatMap tkV))(hv:w.ownsRow B' 51 11 v ts.length (ts.flatMap tkV))(hl:ts.length<=1000000000):
  Calls prog 110 #[u,v] w fun e w'=>e=.returned (.bool true)/\N w.1.size w w':=by
 obtain⟨au,cu,rfl⟩:=zq m
 obtain⟨av,cv,rfl⟩:=zq hv
 have P:=ze m
 have Q:=ze hv
 clear m hv
 go_enter func110,ntmps110
 go_wp2_with fail
 go_loopw [4,5] (fun _ y wr=>∃(k:Nat),k<=ts.length/\y=I J k/\N w.1.size w wr) (fun _ y _=>ts.length-(intOf y).toNat)
 case atStart=>exact⟨0,L _,rfl,G _ _⟩
 case round=>
  obtain⟨k,hk,rfl,d⟩:=hrel
  have M:=ze d
  by_cases l:k<ts.length
  ·obtain⟨x,K⟩:∃x,ts[k]?=O x:=⟨_,List.getElem?_eq_getElem l⟩
   obtain⟨a,V,n,-,f⟩:=(ud P).form (by omega)
   injection n with o q r
   subst o
   obtain⟨gv,W,z,-,g⟩:=(ud Q).form (by omega)
   injection z with C F H
   subst C
   have b:∀i,i<11->wr.cell? ⟨a,k*11+i,E⟩=(tkV x)[i]?:=fun i h=>by
    rw[d.cell (p:=⟨a,k*11+i,E⟩) f,(ud P).cellAt _ (by omega)]
    exact ql qG _ k x i K h
   have c:∀i,i<11->wr.cell? ⟨gv,k*11+i,E⟩=(tkV x)[i]?:=fun i h=>by
    rw[d.cell (p:=⟨gv,k*11+i,E⟩) g,(ud Q).cellAt _ (by omega)]
    exact ql qG _ k x i K h
   have a0:wr.cell? ⟨a,k*11,E⟩=O (I J x.kind):=b 0 (by omega)
   have a1:wr.cell? ⟨a,k*11+1,E⟩=O (I J x.s.t):=b 1 (by omega)
   have a2:wr.cell? ⟨a,k*11+2,E⟩=O (I J x.s.se):=b 2 (by omega)
   have a3:wr.cell? ⟨a,k*11+3,E⟩=O (I J x.s.we):=b 3 (by omega)
   have a4:wr.cell? ⟨a,k*11+4,E⟩=O (I J x.si):=b 4 (by omega)
   have a5:wr.cell? ⟨a,k*11+5,E⟩=O (I J x.tc):=b 5 (by omega)
   have a6:wr.cell? ⟨a,k*11+6,E⟩=O (I J x.rest):=b 6 (by omega)
   have a7:wr.cell? ⟨a,k*11+7,E⟩=O (I J x.ep):=b 7 (by omega)
   have a8:wr.cell? ⟨a,k*11+8,E⟩=O (I J x.num):=b 8 (by omega)
   have a9:wr.cell? ⟨a,k*11+9,E⟩=O (I J x.slot):=b 9 (by omega)
   have R:wr.cell? ⟨a,k*11+10,E⟩=O (I J x.till):=b 10 (by omega)
   have b0:wr.cell? ⟨gv,k*11,E⟩=O (I J x.kind):=c 0 (by omega)
   have b1:wr.cell? ⟨gv,k*11+1,E⟩=O (I J x.s.t):=c 1 (by omega)
   have b2:wr.cell? ⟨gv,k*11+2,E⟩=O (I J x.s.se):=c 2 (by omega)
   have b3:wr.cell? ⟨gv,k*11+3,E⟩=O (I J x.s.we):=c 3 (by omega)
   have b4:wr.cell? ⟨gv,k*11+4,E⟩=O (I J x.si):=c 4 (by omega)
   have b5:wr.cell? ⟨gv,k*11+5,E⟩=O (I J x.tc):=c 5 (by omega)
   have b6:wr.cell? ⟨gv,k*11+6,E⟩=O (I J x.rest):=c 6 (by omega)
   have b7:wr.cell? ⟨gv,k*11+7,E⟩=O (I J x.ep):=c 7 (by omega)
   have b8:wr.cell? ⟨gv,k*11+8,E⟩=O (I J x.num):=c 8 (by omega)
   have b9:wr.cell? ⟨gv,k*11+9,E⟩=O (I J x.slot):=c 9 (by omega)
   have T:wr.cell? ⟨gv,k*11+10,E⟩=O (I J x.till):=c 10 (by omega)
   have j:(k:Int)<ts.length:=by omega
   have X:=U f d.size
   have Z:=U g d.size
   clear q r F H b c d K
   go_wp2_with fail
   go_still (by kernel_rfl)
   go_wp2_with fail
   exact⟨⟨k+1,by omega,by go_num,(ud M).drew⟩,by simp[intOf];omega⟩
  ·have j:¬(k:Int)<ts.length:=by omega
   clear d
   go_wp2_with fail
   go_ret
   exact⟨rfl,ud M⟩
def KV(B:Nat)(w:S)(wb d r:Nat)(pv c:Y)(q:Nat)(w':S):Prop:=∃(a:Y) (b:List Y) (Z:S) (g cap:Nat),w'=Z.setCell ⟨d,9,E⟩ (.slice (O ⟨g,0,E⟩) 1 cap)/\Zc B Z a b (q+1)/\Z.1[wb]?=O (.cells #[pv,a] 63 (0,0))/\zk (fun k=>k=wb\/c.ownBlock=O k) w Z/\(∀k,a.ownBlock=O k->c.ownBlock=O k\/w.1.size<=k)/\Z.ownsRow 0 108 1 (.slice (O ⟨g,0,E⟩) 1 cap) 1 [.pointer (O ⟨r,0,E⟩)]/\w.1.size<=g
theorem Zc.later{B:Nat}{w w':S}{c:Y}{b:List Y}{q:Nat}(h:Zc B w c b q)(a:N w.1.size w w'):Zc B w' c b q:=
 ⟨zi h.row (zk.of_below (f:=fun _=>False) a) (fun _ _ h=>h),h.four,fun j v g=>by
  obtain⟨n,d,e⟩:=h.marks j v g
  exact⟨n,d,zi e (zk.of_below (f:=fun _=>False) a) (fun _ _ h=>h)⟩⟩
theorem Zc.lt{B:Nat}{w:S}{e:Y}{a:List Y}{q:Nat}(h:Zc B w e a q):∀v∈a,∀k,v.ownBlock=O k->k<w.1.size:=fun v hv k d=>by
 obtain⟨j,c⟩:=List.getElem?_of_mem hv
 obtain⟨n,-,b⟩:=h.marks j v c
 exact(World.ownsRow.lt b k d).2
theorem zcI{w:S}{wb t x d r:Nat}{c:Cf}{ct mv td:Y}{ep:Int}(i:w.1[t]?=O (zw x d c ct mv td ep))(a8:w.ownsRow 0 108 1 mv 1 [.pointer (O ⟨r,0,E⟩)])(o:Ops){ts:List Tk}(b7:ts.length<=900)
  {B:Nat} {pv lv:Y} {kn:List Y} {q:Nat} (hw:w.1[wb]?=O (.cells #[pv,lv] 63 (0,0))) (ah:Zc B w lv kn q) (b0:B<=wb) (y:q+1<=1099511627776)
  (aB:∀V,N w.1.size w V->Calls prog 17 #[.pointer (O ⟨x,0,E⟩)] V fun e V'=>∃u,e=.returned u/\V'.ownsRow V.1.size 51 11 u ts.length (ts.flatMap tkV)/\N V.1.size V V')
  (aD:∀V,N w.1.size w V->Calls prog 109 #[.pointer (O ⟨r,0,E⟩)] V fun e V'=>∃u,e=.returned u/\V'.ownsRow V.1.size 51 11 u ts.length (ts.flatMap tkV)/\N V.1.size V V'):
  Calls prog 56 #[.pointer (O ⟨wb,0,E⟩),.pointer (O ⟨t,0,E⟩),.agg #[I J 9,I J o.on,I J o.a,I J o.b,I J o.c,I i32 o.v,I J o.te,I J o.tn,I J o.fs,I J o.fe,I J o.fd,I J o.fw,I J o.fk,I J o.fq,.slice o.fa o.fn o.fc]] w fun e w'=>e=.returned (.bool true)/\KV B w wb t r pv lv q w':=by
 have ak:=zd i
 have b8:=zd hw
 obtain⟨y0,y1,y2,a1,yz⟩:=jr w (.cells #[I J 9,I J o.on,I J o.a,I J o.b,I J o.c,I i32 o.v,I J o.te,I J o.tn,I J o.fs,I J o.fe,I J o.fd,I J o.fw,I J o.fk,I J o.fq,.slice o.fa o.fn o.fc] 68) (.cells #[I J 0,I J 0,I i32 0,I i32 0] 114) (.cells #[I J 0,I J 0,I J 0,I J 0,I J 0,I J 0,I J 0,I J 0] 37)
 have aC:=ze (aB _ a1)
 have aF:=fun(V:S) (hb:N w.1.size w V)=>ze (aD V hb)
 obtain⟨mb,be,aP,_,a9⟩:=a8.form (by omega)
 have aW:Hid (w.cell? ⟨mb,0,E⟩=O (.pointer (O ⟨r,0,E⟩))):=by
  have:=a8
  rw[aP]at this
  show _=_
  rw[this.cellAt 0 (by omega)];rfl
 have p0:(((w.alloc (.cells #[I J 9,I J o.on,I J o.a,I J o.b,I J o.c,I i32 o.v,I J o.te,I J o.tn,I J o.fs,I J o.fe,I J o.fd,I J o.fw,I J o.fk,I J o.fq,.slice o.fa o.fn o.fc] 68)).alloc (.cells #[I J 0,I J 0,I i32 0,I i32 0] 114)).alloc (.cells #[I J 0,I J 0,I J 0,I J 0,I J 0,I J 0,I J 0,I J 0] 37)).cell? ⟨t,0,E⟩=O (.pointer (O ⟨x,0,E⟩)):=by have y:=(a1.block t ak).trans i;unfold zw at y;rw[zN y];rfl
 have ab:¬t=wb:=fun e=>by rw[e,hw]at i;unfold zw at i;injection i with h1;injection h1 with _ h1;exact absurd h1 (by decide)
 have aa:¬lv.ownBlock=O t:=fun e=>by
  obtain⟨bf,hc⟩:=zO ah.row e
  rw[i]at hc;unfold zw at hc;injection hc with h1;injection h1 with _ h1;exact absurd h1 (by decide)
 have aq:=ze i
 have HW:=ze hw
 have T:=ze ah
 have aX:=ze aa
 have ay:=ze ab
 go_enter func56,ntmps56
 have Y0:=ze y0
 have ap:=ze a1
 have YZ:=ze yz
 clear y0 y1 y2 a1 yz aB aD i hw ah aa ab
 go_wp2_with fail
 generalize(((w.alloc (.cells #[I J 9,I J o.on,I J o.a,I J o.b,I J o.c,I i32 o.v,I J o.te,I J o.tn,I J o.fs,I J o.fe,I J o.fd,I J o.fw,I J o.fk,I J o.fq,.slice o.fa o.fn o.fc] 68)).alloc (.cells #[I J 0,I J 0,I i32 0,I i32 0] 114)).alloc (.cells #[I J 0,I J 0,I J 0,I J 0,I J 0,I J 0,I J 0,I J 0] 37))=X at*
 refine(ud aC).mono ?_
 rintro e V ⟨u,rfl,al,a0⟩
 obtain⟨au,cu,rfl⟩:=zq al
 have bh:X.1.size=w.1.size+3:=ud YZ
 have Q:=(ud ap).trans (a0.mono (ud ap).size)
 have a3:=(a0.block w.1.size (by omega)).trans (ud Y0)
 obtain⟨v0,-⟩:=zc a3
 have aI:=ze (YG (w:=V) (by rw[<-aP];exact(Q.block t ak).trans (ud aq)) ((Q.cell (p:=⟨mb,0,E⟩) a9).trans (ud aW)) (U a9 Q.size))
 have aA:=ze a3
 have aK:=ze Q
 have aG:=ze al
 have bl:=zd a3
 have bg:=a0.size
 clear al a0 Q a3 aC p0
 go_wp2_with fail
 refine(ud aI).mono ?_
 rintro e W1 ⟨W,bb,rfl,l,F⟩
 have a2:=(F.block w.1.size (zd (ud aA))).trans (ud aA)
 have an:=(ud aK).trans (F.mono (ud aK).size)
 obtain⟨q0,-⟩:=zc a2
 have g0:W1.cell? ⟨W,0,E⟩=O (.pointer (O ⟨r,0,E⟩)):=by rw[l.cellAt 0 (by omega)];rfl
 have aN:W<W1.1.size:=(l.lt W rfl).2
 have aE:=aF W1 an
 have C:=ze (zi (ud aG) (zk.of_below (f:=fun _=>False) F) (fun _ _ h=>h))
 have az:=ze a2
 have aJ:=ze an
 have bk:=zd a2
 have bn:=F.size
 clear a2 an l F v0 aI aF aG
 go_wp2_with fail
 refine wp_loop_rounds 2 ?_
 rw[rounds_succ]
 go_wp2_with fail
 refine(ud aE).mono ?_
 rintro e U1 ⟨u2,rfl,am,H⟩
 obtain⟨av,cv,rfl⟩:=zq am
 have aH:=ze (zgk (zi (ud C) (zk.of_below (f:=fun _=>False) H) (fun _ _ h=>h)) am (by omega))
 have ao:=ze H
 have g2:U1.cell? ⟨W,0,E⟩=O (.pointer (O ⟨r,0,E⟩)):=(H.cell (p:=⟨W,0,E⟩) aN).trans g0
 have aO:W<U1.1.size:=U aN H.size
 clear am H aE
 go_wp2_with fail
 refine(ud aH).mono ?_
 rintro e z ⟨rfl,Z⟩
 have g3:z.cell? ⟨W,0,E⟩=O (.pointer (O ⟨r,0,E⟩)):=(Z.cell (p:=⟨W,0,E⟩) aO).trans g2
 have bi:W<z.1.size:=U aO Z.size
 have aT:=ze Z
 have b2:0<1:=by decide
 have b3:0+1<=maxLen:=by simp[maxLen]
 have b4:(0+1)*8<=140737488355328:=by omega
 clear Z aH
 go_wp2_with(first|(at_builtin;refine zP rfl _ _ 104 rfl 0 108 _ 1 8 underlying104 Tryz.infoRefP rfl (by decide) (.slice E 0 0) 0 [] rfl (World.ownsRow_nil _ _ _ _) ⟨z.1.size,0,E⟩ 1 1 [.pointer (O ⟨r,0,E⟩)] rfl rfl (World.news_of_block (cs:=#[.pointer (O ⟨r,0,E⟩)]) (zo z _)) (by intro u hu;simp at hu;subst hu;rfl) b2 b3 b4 (L _) ?_;intro g aL W4 M aj s a5 K;have aY:=ze M;have aU:=ze s;have aS:=ze a5;clear M aj s a5)|go_in)
 have af:N z.1.size z (z.alloc (.cells #[.pointer (O ⟨r,0,E⟩)] 108)):=(G _ _).alloc (A _) _
 have a6:N z.1.size z W4:=af.grown (show(z.alloc (.cells #[.pointer (O ⟨r,0,E⟩)] 108)).grownBy W4 E from ud aU) af.size (fun k e=>by cases e)
 have m:N W1.1.size W1 z:=(ud ao).trans ((ud aT).mono (ud ao).size)
 have n:N W1.1.size W1 W4:=m.trans (a6.mono m.size)
 have a4:N w.1.size w W4:=(ud aJ).trans (n.mono (ud aJ).size)
 have bj:z.1.size<=g:=by
  rcases ud aS with h|h
  ·cases h
  ·rw[h,zF];omega
 have bo:=m.size
 have ai:=(n.block w.1.size (zd (ud az))).trans (ud az)
 obtain⟨k0,-⟩:=zc ai
 have bc:=zd ai
 have ac:=zi (ud C) (zk.of_below (f:=fun _=>False) n) (fun _ _ h=>h)
 have K:=(ud T).lt
 have aw:=ze (zfh (B:=B) (X:=X.1.size) (w:=W4) ((a4.block wb b8).trans (ud HW)) ((ud T).later a4) (by omega) (by omega) (by omega) b0 (fun k R=>by have:=((ud T).row.lt k R).2;omega) (fun v hv k R=>by have:=K v hv k R;omega) ts (.slice au ts.length cu) ac b7 y)
 have aQ:∀k,(Value.slice au ts.length cu).ownBlock=O k->w.1.size<=k/\k<W1.1.size:=fun k R=>by have:=(ud C).lt k R;omega
 have ad:=ze aQ
 have ae:=ze a4
 clear af a6 m n a4 ai ac K aQ g0 g2 g3 q0
 rw[rounds_succ]
 go_wp2_with fail
 refine(ud aw).mono ?_
 rintro e W5 ⟨rfl,ba,b9,aM,aR,ag,a7⟩
 have b5:¬(Value.slice au ts.length cu).ownBlock=O t:=fun e=>by have:=(ud ad t e).1;omega
 have P:=ag.heap (((ud ae).block t ak).trans (ud aq)) (fun e=>by
  rcases e with e|e|e
  ·exact ud ay e
  ·exact ud aX e
  ·exact b5 e)
 have k9:W5.cell? ⟨t,9,E⟩=O mv:=by have y:=P;unfold zw at y;rw[zN y];rfl
 have bp:W5.cell? ⟨t,13,E⟩=O (.bool false):=by have y:=P;unfold zw at y;rw[zN y];rfl
 have bq:∀j,W5.frozen? ⟨t,j,E⟩=false:=fun j=>by have y:=P;unfold zw at y;exact zD y j
 have bd:=zd P
 have aV:=ze aM
 have aZ:=ze aR
 have ar:=ze ag
 have ax:=ze a7
 clear aM aR ag a7 P aw k0
 go_wp2_with fail
 go_ret
 have b1:zk (fun k=>k=wb\/lv.ownBlock=O k) w W5:=(zk.of_below (f:=fun k=>k=wb\/lv.ownBlock=O k) (ud ae)).trans (ud ar) (fun k R e=>by
  rcases e with e|e|e
  ·exact .inl e
  ·exact .inr e
  ·have:=(ud ad k e).1;omega)
 have b6:=zi (ud aY) (ud ar) (fun k R e=>by
  have hg:g=k:=Option.some.inj R
  subst hg
  rcases e with e|e|e
  ·omega
  ·have:=((ud T).row.lt g e).2;omega
  ·have:=(ud ad g e).2;omega)
 have bm:=(ud ae).size
 exact⟨rfl,ba,b9,W5,g,aL,rfl,ud aV,ud aZ,b1,fun k R=>(ud ax k R).imp id (fun h=>by omega),b6,by omega⟩
end Go.Proofs.YtpbimdkclnekeaaGreat
