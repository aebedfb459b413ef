import Derived.Test.YtndhpgciopcncaaGreatDoorYOrd4
import Derived.Shelf.Abstract
open Go.Value (int)
open Go.IntKind (i64)
set_option linter.unusedVariables false
namespace Go.Proofs.YtndhpgciopcncaaGreatDoor
open Go.RowKit
def Tk.holds(ep num:Int)(x:Tk):Bool:=decide (0<=x.slot)&&(decide (x.ep=ep)&&decide (x.num=num))
def RM.fail(m:RM)(ep num:Int):RM×Int:=match m.tk.findIdx? (Tk.holds ep num)with
 |some i=>({m with tk:=m.tk.modify i (Tk.fail m.now)},0)
 |none=>(m,8)
def RM.done(m:RM)(kind:Int)(s:Sg):RM:=if kind=1 then{m with pub:=m.pub++[s]}.settled else{m with gone:=m.gone++[s]}.settled
def RM.commit(m:RM)(ep num:Int):RM×Int:=match m.tk.findIdx? (Tk.holds ep num)with
 |some i=>(m.done ((m.tk[i]?).getD ⟨0,⟨0,0,0⟩,0,0,0,0,0,0,0⟩).kind ((m.tk[i]?).getD ⟨0,⟨0,0,0⟩,0,0,0,0,0,0,0⟩).s,0)
 |none=>(m,8)
abbrev tkA(x:Tk):Value:=.agg #[int i64 x.kind,int i64 x.s.t,int i64 x.s.se,int i64 x.s.wn,int i64 x.si,int i64 x.tc,int i64 x.rest,int i64 x.ep,int i64 x.num,int i64 x.slot,int i64 x.till]
end Go.Proofs.YtndhpgciopcncaaGreatDoor
