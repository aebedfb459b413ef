import Derived.Test.YtndhpgciopcncaaGreatDoorPOrd6
import Derived.Test.YtndhpgciopcncaaGreatDoorPCop0
import Derived.Test.YtndhpgciopcncaaGreatDoorPMlz3
import Derived.Test.YtndhpgciopcncaaGreatDoorPTak1
open Option renaming some → J
open Option renaming none → E
open Go.RowKit renaming Below → Q
open Go.RowKit.Below renaming refl → Y
open Go renaming World → A
set_option linter.unusedVariables false
set_option maxRecDepth 20000
set_option maxHeartbeats 8000000
open Go.Proofs.Tryz
namespace Go.Proofs.YtndhpgciopcncaaGreatDoor
open Go.RowKit Go.Maps Go.Shelf
def yU(QL:List (Tok×Lse))(x:Tsk):Tk:=⟨x.kd,x.s,x.se,x.ti,x.rest,(ji QL x).1.ep,(ji QL x).1.num,(ji QL x).2.1,(ji QL x).2.2⟩
theorem zpE(QL:List (Tok×Lse))(x:Tsk):TkT (yU QL x) x:=⟨rfl,rfl,rfl⟩
def zdq(k:Tk):Tsk:=⟨decide (k.kind=1),k.s,k.se,k.ti,k.rest⟩
theorem kn(QL:List (Tok×Lse))(x:Tsk):zdq (yU QL x)=x:=by
 obtain⟨c,s,a,b,d⟩:=x
 unfold zdq yU
 cases c<;>rfl
theorem zop{QL:List (Tok×Lse)}(g:∀q∈QL,0<=q.2.slot)(x:Tsk):decide ((yU QL x).slot<0)=!k7 QL x.key:=by
 show decide ((ji QL x).2.1<0)=_
 unfold ji k7
 cases c:QL.find? (fun p=>decide (p.2.job=x.key))with
 |none=>
  have b:QL.any (fun p=>decide ((⟨p.2.kd,p.2.s⟩:Jk)=x.key))=false:=by
   rw[List.any_eq_false]
   intro q a e
   have d:q.2.job=x.key:=of_decide_eq_true e
   exact List.find?_eq_none.1 c q a (decide_eq_true d)
  rw[b];rfl
 |some q=>
  have a:=List.mem_of_find?_eq_some c
  have f:=List.find?_some c
  have b:QL.any (fun p=>decide ((⟨p.2.kd,p.2.s⟩:Jk)=x.key))=true:=List.any_eq_true.2 ⟨q,a,decide_eq_true (show(⟨q.2.kd,q.2.s⟩:Jk)=x.key from of_decide_eq_true f)⟩
  rw[b]
  have:=g q a
  simpa using this
theorem Jh{r:RM}{QL:List (Tok×Lse)}(a:∀q∈QL,0<=q.2.slot)(x:Tsk):r.freeT (yU QL x)=yO QL r.now x:=by
 unfold RM.freeT yO
 rw[zop a,Bool.and_comm]
 rfl
def xB(TL:List (Jk×Tsk))(QL:List (Tok×Lse))(l:List Tk):Prop:=∃c:List Tsk,c.Perm (TL.map (·.2))/\c.Pairwise (fun a b=>¬qp b a<0)/\l=c.map (yU QL)
theorem xB.mem{TL:List (Jk×Tsk)}{QL:List (Tok×Lse)}{l:List Tk}(h:xB TL QL l)(k:Tk):k∈l↔∃p∈TL,k=yU QL p.2:=by
 obtain⟨d,b,-,rfl⟩:=h
 rw[List.mem_map]
 constructor
 ·rintro⟨x,c,rfl⟩
  obtain⟨p,a,rfl⟩:=List.mem_map.1 (b.mem_iff.1 c)
  exact⟨p,a,rfl⟩
 ·rintro⟨p,a,rfl⟩
  exact⟨p.2,b.mem_iff.2 (List.mem_map.2 ⟨p,a,rfl⟩),rfl⟩
section
variable {c:Cf} {ep:Int} {m:MS} {r:RM}
theorem pick_idle(e:xB m.TL m.QL r.td)(hn:r.now=m.now)(d:∀q∈m.QL,0<=q.2.slot)(h:∀p∈m.TL,yO m.QL m.now p.2=false):r.bestI r.td.length=E:=by
 cases b:r.bestI r.td.length with
 |none=>rfl
 |some j=>
  obtain⟨-,x,f,a⟩:=Yn r _ b
  obtain⟨p,c,rfl⟩:=(e.mem x).1 (List.mem_of_getElem? f)
  rw[Jh d,hn,h p c]at a
  cases a
theorem ziN(d:MOk c ep m)(H:r.c=c)(t:xB m.TL m.QL r.td)(hn:r.now=m.now)(u:r.tight=yn (zJ m.L) c.qu)(z:∀q∈m.QL,0<=q.2.slot){p:Jk×Tsk}(n:p∈m.TL)(I:yO m.QL m.now p.2=true)(M:YC c m.now (yn (zJ m.L) c.qu) m.QL m.TL p.2):
  ∃j,r.bestI r.td.length=J j/\r.td[j]?=J (yU m.QL p.2):=by
 have e:=(t.mem (yU m.QL p.2)).2 ⟨p,n,rfl⟩
 obtain⟨i,h,l⟩:=List.getElem_of_mem e
 have b:r.td[i]?=J (yU m.QL p.2):=by rw[List.getElem?_eq_getElem h,l]
 have a:r.freeT (yU m.QL p.2)=true:=by rw[Jh z,hn];exact I
 cases g:r.bestI r.td.length with
 |none=>
  have:=Qg _ g i _ h b
  rw[this]at a;cases a
 |some j=>
  obtain⟨-,x,v,w⟩:=Yn r _ g
  obtain⟨q,o,rfl⟩:=(t.mem x).1 (List.mem_of_getElem? v)
  refine⟨j,rfl,?_⟩
  have y:=jz zdq (fun k K=>by
   obtain⟨N,s,rfl⟩:=(t.mem k).1 K
   rw[kn]
   exact⟨zpE _ _,by rw[hn];exact(d.td N s).se.2⟩) r.td.length j _ g v i _ h b a
  rw[kn,kn,H,hn,u]at y
  have G:=M q o (by rw[<-hn,<-Jh z];exact w)
  obtain⟨B,C⟩:=zod _ _ _ _ _ y G
  have F:p.1=q.1:=by
   rw[(d.td p n).key,(d.td q o).key]
   unfold Tsk.key
   rw[B,C]
  have D:zD m.TL p.1=J p.2:=xp d.nt n
  have f:zD m.TL q.1=J q.2:=xp d.nt o
  rw[<-F,D]at f
  injection f with f
  rw[v,f]
end
theorem ziv{dn:Bool}{w:A}{i:Ids}{c:Cf}{ep:Int}{m:MS}(h:xG dn w i c ep m)(o:(m.QL.map (fun q=>q.2.job)).Nodup)(g:m.TL.length<=1000000):
  Calls prog 19 #[(O i.x)] w fun e w'=>∃d a cap,vY m.TL d/\e=.returned (.slice a d.length cap)/\w'.ownsRow w.1.size 51 11 (.slice a d.length cap) d.length (d.flatMap (ZO m.QL))/\Q w.1.size w w':=by
 have p:=h.lt
 obtain⟨-,-,-,-,-,-,-,-,-,-,l⟩:=h.cells
 have j:=ze (zli h.board o g)
 clear h
 go_enter func19,ntmps19
 go_wp2_with fail
 refine(ud j).mono ?_
 rintro e r ⟨d,a,cap,n,rfl,b,f⟩
 have HR:=ze b
 have k:=ze f
 clear b f j
 go_wp2_with fail
 go_ret
 exact⟨d,a,cap,n,rfl,ud HR,ud k⟩
def Vj(m':MS)(q a:JM)(now:Int)(xs:List SX):Prop:=
 (Jt (zbX q.S (xS now xs)) q.st=false/\a=ZL q (xS now xs))\/(Jt (zbX q.S (xS now xs)) q.st=true/\∃b:List SX,b.Perm (vA m'.L m'.Gl)/\a=zqe (ZL q (xS now xs)) (xS now b))
theorem ZD{w':A}{i:Ids}{c:Cf}{ep:Int}{m:MS}{q:JM}{now:Int}{xs:List SX}{e:Ending}(h:jX w' i c ep m q now xs e)(f:jU q.S (xS now xs)=false):e=.returned (I 13)/\zQ w' i c ep m {ZL q (xS now xs)with dn:=true}:=by
 rcases h with⟨_,b,d⟩|⟨a,_⟩
 ·exact⟨b,d⟩
 ·rw[f]at a;cases a
theorem vr{w':A}{i:Ids}{c:Cf}{ep:Int}{m:MS}{q:JM}{now:Int}{xs:List SX}{e:Ending}(h:jX w' i c ep m q now xs e)(k:jU q.S (xS now xs)=true):e=.returned (I 0)/\∃g,Vj (m.took now xs) q g now xs/\zQ w' i c ep (m.took now xs) g:=by
 rcases h with⟨d,_⟩|⟨_,f,⟨a,b⟩|⟨a,l,b,j⟩⟩
 ·rw[k]at d;cases d
 ·exact⟨f,_,.inl ⟨a,rfl⟩,b⟩
 ·exact⟨f,_,.inr ⟨a,l,b,rfl⟩,j⟩
def zpP(w':A)(i:Ids)(c:Cf)(ep:Int)(m:MS)(q:JM)(n:Int)(e:Ending):Prop:=
 (jU q.S (xS (m.now+n) [])=false/\e=.returned (I 13)/\zQ w' i c ep m {ZL q (xS (m.now+n) [])with dn:=true})
 \/(jU q.S (xS (m.now+n) [])=true/\e=.returned (I 0)/\∃f d a b,Vj (m.took (m.now+n) []) q f (m.now+n) []/\zQ w' i c ep {m with now:=m.now+n,TL:=b,QL:=a} f/\zag (m.now+n) m.TL m.QL d a/\(∀p∈a,m.now+n<p.2.til)/\xA c {m with now:=m.now+n,TL:=d,QL:=a} b)
theorem zlT(w:A)(base:Nat):vW w base (.slice E 0 0) []:=by
 unfold vW;exact World.ownsRow_nil _ _ _ _
theorem zpr{w:A}{i:Ids}{c:Cf}{ep:Int}{m:MS}{q:JM}(h:zQ w i c ep m q)(hc:c.ok)(n:Int)(hn:1<=n/\n<=1000)(a0:0<=m.now/\m.now+n<=100000)(hI:zmw 1000000 100000 m.TL m.QL)(hL:∀p∈m.L,inR c p.1)(Z:m.L.length<=2000)(a2:∀r QL',zag (m.now+n) m.TL m.QL r QL'->r.length<=50000)
  (t:∀x∈vA m.L m.Gl,okX x) (af:m.Gl.length<=49000000) (N:Nat) (hN:N<=900000000000) (hd:DOk q.S N) (ag:0<=q.st/\q.st<=1099511627776):
  Calls prog 26 #[(O i.x),I n] w fun e w'=>zpP w' i c ep m q n e/\Kx i w w':=by
 obtain⟨-,-,-,-,-,-,-,-,c8,-,-⟩:=h.own.cells
 have ap:=h.lt
 obtain⟨al,am⟩:=hn
 obtain⟨an,a3⟩:=a0
 have ai:decide (n<1)=false:=by simp;omega
 have aj:decide (1000<n)=false:=by simp;omega
 have ak:decide (100000<m.now+n)=false:=by simp;omega
 have o:=fun W (u:Q w.1.size w W)=>Xm (h.later u) (m.now+n) (by unfold xg;omega) [] (by simp) t (by simp) (by omega) af N hN hd ag 0 (.slice E 0 0) (zlT _ _)
 have ah:=ze h.dlt
 clear t hd
 cases d:jU q.S (xS (m.now+n) [])
 ·have f:=fun W (u:Q w.1.size w W)=>ze ((o W u).mono (fun e T v=>(⟨(ZD v.1 d).1,(ZD v.1 d).2,v.2⟩:e=.returned (I 13)/\zQ T i c ep m {ZL q (xS (m.now+n) [])with dn:=true}/\Kx i W T)))
  have l:=f w (Y _ _)
  clear h o f hI hL a2
  go_enter func26,ntmps26
  go_wp2_with fail
  refine(ud l).mono ?_
  rintro e T ⟨rfl,g,H⟩
  have HM:=ze g
  have HK:=ze H
  clear g H
  go_wp2_with fail
  go_ret
  exact⟨.inl ⟨d,rfl,ud HM⟩,ud HK⟩
 ·have f:=fun W (u:Q w.1.size w W)=>ze ((o W u).mono (fun e T v=>(⟨(vr v.1 d).1,(vr v.1 d).2,v.2⟩:e=.returned (I 0)/\(∃q',Vj (m.took (m.now+n) []) q q' (m.now+n) []/\zQ T i c ep (m.took (m.now+n) []) q')/\Kx i W T)))
  have l:=f w (Y _ _)
  clear h o f
  go_enter func26,ntmps26
  go_wp2_with fail
  refine(ud l).mono ?_
  rintro e T ⟨rfl,⟨q',hA,P⟩,H⟩
  have g:zQ T i c ep {m with now:=m.now+n} q':=P
  obtain⟨-,-,-,-,-,-,-,-,d8,-,D⟩:=g.own.cells
  dsimp only at d8
  have a4:=g.lt
  have HE:=fun W (u:Q T.1.size T W)=>ze (zeZ ((g.later u).board) (m.now+n) ⟨by omega,a3⟩ hI)
  have z:=HE T (Y _ _)
  have j:=HE T.drew (Y _ _).drew
  have y:∀k,(k=i.tb\/k=i.qb)->¬i.x=k:=fun k e e'=>by
   rcases e with e|e
   ·exact g.x_board k (.inr (.inl e)) e'.symm
   ·exact g.x_board k (.inr (.inr e)) e'.symm
  have C:Hid (¬(i.x=i.tb\/i.x=i.qb)):=fun e=>by
   rcases e with e|e
   ·exact y i.tb (.inl rfl) e
   ·exact y i.qb (.inr rfl) e
  have HM:=ze g
  have HK:=ze H
  have HA:=ze hA
  clear P g H hA HE y l
  go_wp2_with fail
  go_region_held3 (fun w'=>w'.cell? (U i.x 8)=J (I (m.now+n))/\w'.cell? (U i.x 10)=J (O i.b)) (go_keep) (first
   |(go_at_call 59;(first|(with_reducible refine(ud z).mono ?_)|(with_reducible refine(ud j).mono ?_));rintro e V1 ⟨rfl,ad,ac,F,a,G,a1⟩;have hK1:zh (fun k=>k=i.tb\/k=i.qb) T V1:=⟨a.os,a.tape,a.output,a.size,a.block⟩;clear a;have g8:=(zM (i:=8) hK1 (ud C) a4).trans d8;have ae:=(zM (i:=10) hK1 (ud C) a4).trans D;have a5:=ze F;have a6:=ze hK1;have j:=ze G;have ab:=ze a1;clear F hK1 G a1 z))
  all_goals(
   have X:zh (jT i.b i.tb i.qb) T V1:=(ud a6).mono (fun k _ e=> .inr e)
   obtain⟨s,K⟩:=(ud HM).putBoard (ud a5) X
   have aa:=ze (JF s.own hc hL Z ⟨by show 0<=m.now+n;omega,a3⟩ (a2 _ _ (ud j)))
   have a8:=ze s
   have a7:=ze ((ud HK).trans K)
   have ao:=s.lt
   clear X s K d8 D g8 ae
   go_wp2_with(first|(go_at_call 55;refine(ud aa).mono ?_;rintro e V3 ⟨rfl,r,R,M,V⟩;have B:=ze ((ud a8).put R M (fun k e=> .inr (.inr (.inr (.inl e)))));have a9:=ze V;clear R M V))
   go_ret
   exact⟨.inr ⟨d,rfl,q',ad,ac,r,ud HA,(ud B).1,ud j,ud ab,ud a9⟩,(ud a7).trans (ud B).2⟩)
theorem Jg{QL:List (Tok×Lse)}{x:Tsk}{q:Tok×Lse}(h:QL.find? (fun p=>decide (p.2.job=x.key))=J q):q.2.job=x.key:=by
 have:=List.find?_some h
 exact of_decide_eq_true this
theorem XS{QL:List (Tok×Lse)}(g:(QL.map (fun q=>q.2.job)).Nodup){q:Tok×Lse}(c:q∈QL){x:Tsk}(e:q.2.job=x.key):ji QL x=(q.1,q.2.slot,q.2.til):=by
 unfold ji
 cases a:QL.find? (fun p=>decide (p.2.job=x.key))with
 |none=>exact absurd (decide_eq_true e) (List.find?_eq_none.1 a q c)
 |some b=>
  have d:=List.mem_of_find?_eq_some a
  have f:b.2.job=x.key:=Jg a
  have:b=q:=yE g b d q c (f.trans e.symm)
  subst this
  rfl
theorem Zc{QL:List (Tok×Lse)}{x:Tsk}(h:∀q∈QL,q.2.job≠x.key):ji QL x=(⟨0,0⟩,-1,0):=by
 unfold ji
 cases a:QL.find? (fun p=>decide (p.2.job=x.key))with
 |none=>rfl
 |some q=>exact absurd (Jg a) (h q (List.mem_of_find?_eq_some a))
theorem Zt(QL:List (Tok×Lse))(x:Tsk):(∃q∈QL,q.2.job=x.key/\ji QL x=(q.1,q.2.slot,q.2.til))\/((∀q∈QL,q.2.job≠x.key)/\ji QL x=(⟨0,0⟩,-1,0)):=by
 unfold ji
 cases a:QL.find? (fun p=>decide (p.2.job=x.key))with
 |none=>exact .inr ⟨fun q b e=>List.find?_eq_none.1 a q b (decide_eq_true e),rfl⟩
 |some q=>exact .inl ⟨q,List.mem_of_find?_eq_some a,Jg a,rfl⟩
section
variable {c:Cf} {ep:Int} {m:MS} {r:RM}
theorem MOk.leased(a:MOk c ep m){q:Tok×Lse}(e:q∈m.QL):∃p∈m.TL,p.2.key=q.2.job/\ji m.QL p.2=(q.1,q.2.slot,q.2.til):=by
 obtain⟨x,f,-⟩:=(a.leas q e).job
 have d:=zB f
 have b:=(a.td _ d).key
 exact⟨_,d,b.symm,XS a.jobs e b⟩
theorem YG(i:MOk c ep m)(g:xB m.TL m.QL r.td)(slot:Int)(j:0<=slot):r.td.any (fun x=>x.slot==slot)=m.QL.any (fun p=>p.2.slot==slot):=by
 rw[Bool.eq_iff_iff,List.any_eq_true,List.any_eq_true]
 constructor
 ·rintro⟨k,h,d⟩
  obtain⟨p,f,rfl⟩:=(g.mem k).1 h
  have a:(ji m.QL p.2).2.1=slot:=by simpa[yU]using d
  rcases Zt m.QL p.2 with⟨q,b,-,e⟩|⟨-,e⟩
  ·rw[e]at a;exact⟨q,b,by simpa using a⟩
  ·rw[e]at a;simp only at a;omega
 ·rintro⟨q,b,d⟩
  obtain⟨p,f,-,e⟩:=i.leased b
  exact⟨yU m.QL p.2,(g.mem _).2 ⟨p,f,rfl⟩,by simpa[yU,e]using d⟩
theorem Jj(k:∀q∈m.QL,0<=q.2.slot)(j:(m.QL.map (fun q=>q.2.job)).Nodup)(x:Tsk)(e n:Int):(yU m.QL x).holds e n=true↔∃q∈m.QL,q.1=⟨e,n⟩/\q.2.job=x.key:=by
 unfold Tk.holds yU
 simp only[Bool.and_eq_true,decide_eq_true_eq]
 rcases Zt m.QL x with⟨q,i,g,f⟩|⟨hn,f⟩
 ·rw[f]
  simp only
  constructor
  ·rintro⟨-,c,b⟩
   refine⟨q,i,?_,g⟩
   obtain⟨⟨_,_⟩,_⟩:=q
   simp only at c b ⊢
   rw[c,b]
  ·rintro⟨d,a,c,b⟩
   have:d=q:=yE j d a q i (b.trans g.symm)
   subst this
   exact⟨k d a,by rw[c],by rw[c]⟩
 ·rw[f]
  simp only
  constructor
  ·rintro⟨h,-⟩;omega
  ·rintro⟨d,a,-,b⟩;exact absurd b (hn d a)
theorem Vp(a:MOk c ep m)(j:xB m.TL m.QL r.td)(i:∀q∈m.QL,0<=q.2.slot)(e n:Int)(h:zD m.QL ⟨e,n⟩=E):r.td.findIdx? (Tk.holds e n)=E:=by
 rw[List.findIdx?_eq_none_iff]
 intro k f
 obtain⟨p,l,rfl⟩:=(j.mem k).1 f
 cases d:(yU m.QL p.2).holds e n with
 |false=>rfl
 |true=>
  obtain⟨q,g,b,-⟩:=(Jj i a.jobs p.2 e n).1 d
  have:zD m.QL q.1=J q.2:=xp a.nq g
  rw[b,h]at this;cases this
theorem Qr(a:MOk c ep m)(v:xB m.TL m.QL r.td)(u:∀q∈m.QL,0<=q.2.slot)(e n:Int){g:Lse}(h:zD m.QL ⟨e,n⟩=J g){x:Tsk}(w:zD m.TL g.job=J x):∃j,r.td.findIdx? (Tk.holds e n)=J j/\r.td[j]?=J (yU m.QL x):=by
 have G:=zB h
 have t:=zB w
 have F:=(a.td _ t).key
 have D:(yU m.QL x).holds e n=true:=(Jj u a.jobs x e n).2 ⟨_,G,rfl,F⟩
 cases p:r.td.findIdx? (Tk.holds e n)with
 |none=>
  have:=List.findIdx?_eq_none_iff.1 p _ ((v.mem _).2 ⟨_,t,rfl⟩)
  rw[D]at this;cases this
 |some j=>
  obtain⟨s,o,-⟩:=List.findIdx?_eq_some_iff_getElem.1 p
  refine⟨j,rfl,?_⟩
  obtain⟨d,b,l⟩:=(v.mem _).1 (List.getElem_mem s)
  rw[l]at o
  obtain⟨y,k,z,B⟩:=(Jj u a.jobs d.2 e n).1 o
  have f:zD m.QL y.1=J y.2:=xp a.nq k
  rw[z,h]at f
  injection f with f
  have C:d.1=g.job:=by rw[(a.td d b).key,<-B,f]
  have i:zD m.TL d.1=J d.2:=xp a.nt b
  rw[C,w]at i
  injection i with i
  rw[List.getElem?_eq_getElem s,l,i]
end
theorem zaH{w:A}{c:Cf}{ep:Int}{m:MS}{dn:Bool}{i:Ids}(h:xG dn w i c ep m)(B:c.ok)(o:MOk c ep m)(hq:m.QL=[])(hn:∀p∈m.TL,zgE m.now p.2):
  Calls prog 25 #[(O i.x)] w (Rz w (.bool true)):=by
 have G:=ze (ziv h o.jobs (by have:=o.t800 B;omega))
 have T:=fun W (e:Q w.1.size w W)=>ze (Jz (h.later e) B ⟨(o.seg.u0 B).1,by have:=(o.seg.u0 B).2;omega⟩ (by have:=o.seg.len400 B;omega))
 have R:=o.t800 B
 have S:=ze hn
 rw[hq]at G
 clear h o hn
 go_enter func25,ntmps25
 go_wp2_with fail
 refine(ud G).mono ?_
 rintro e X ⟨d,a,cap,L,rfl,l,q⟩
 have a0:d.length<=800:=by rw[L.len];exact R
 have H:Hid (∀x∈d,zgE m.now x):=fun x D=>by
  obtain⟨p,hp,rfl⟩:=List.mem_map.1 (L.perm.mem_iff.1 D)
  exact ud S p hp
 have C:=T _ q
 have HR:=ze l
 have n:=ze q
 clear q l L T G S
 go_wp2_with fail
 refine(ud C).mono ?_
 rintro e F ⟨rfl,r⟩
 have v:Q X.1.size X (F.alloc (.cells (mZz c m ep) 37)):=r.alloc r.size _
 have q2:=zp F (.cells (mZz c m ep) 37)
 have K:=ze (zi (ud HR) (zh.of_below (f:=fun _=>False) v) (fun _ _ e=>e))
 have V:=ze ((ud n).trans (v.mono (ud n).size))
 have Q2:=ze q2
 have P:=zd q2
 clear r v q2 C HR n
 go_wp2_with fail
 generalize(F.alloc (.cells (mZz c m ep) 37))=Z at*
 generalize F.1.size=sb at*
 go_loopw [5,6] (fun y _ wr=>∃k:Nat,k<=d.length/\y=I k/\Q Z.1.size Z wr) (fun y _ _=>d.length-(intOf y).toNat)
 case atStart=>exact⟨0,Nat.zero_le _,rfl,Y _ _⟩
 case round=>
  obtain⟨k,hk,rfl,z⟩:=hrel
  have a3:(d.length:Int)<=800:=by omega
  by_cases N:k<d.length
  ·have a1:(k:Int)<d.length:=by omega
   obtain⟨x,D⟩:=ki N
   obtain⟨x1,x2,x3⟩:=ud H x (List.mem_of_getElem? D)
   obtain⟨g,cg,hv,a2,b⟩:=zhZ (zi (ud K) (zh.of_below (f:=fun _=>False) z) (fun _ _ e=>e)) D
   have ea:a=J (U g 0):=by injection hv
   subst ea
   have j0:Cz wr g (k*11) (I x.kd):=b 0 (by omega)
   have j1:Cz wr g (k*11+1) (I x.s.t):=b 1 (by omega)
   have j2:Cz wr g (k*11+2) (I x.s.sr):=b 2 (by omega)
   have j3:Cz wr g (k*11+3) (I x.s.wn):=b 3 (by omega)
   have j4:wr.cell? (U g (k*11+4))=J (I m.now):=by rw[b 4 (by omega),<-x1];rfl
   have j5:wr.cell? (U g (k*11+5))=J (I 0):=by rw[b 5 (by omega),<-x2];rfl
   have j6:wr.cell? (U g (k*11+6))=J (I 0):=by rw[b 6 (by omega),<-x3];rfl
   have j7:Cz wr g (k*11+7) (I 0):=b 7 (by omega)
   have j8:Cz wr g (k*11+8) (I 0):=b 8 (by omega)
   have j9:Cz wr g (k*11+9) (I (-1)):=b 9 (by omega)
   have a6:Cz wr g (k*11+10) (I 0):=b 10 (by omega)
   have u:=(z.block _ P).trans (ud Q2)
   obtain⟨s0,-⟩:=zc u
   have a5:=zd u
   have j:=ze z
   clear z b hv D x1 x2 x3 u
   go_wp2_with fail
   exact⟨⟨k+1,by omega,by go_num,(ud j).alloc (ud j).size _⟩,by simp[intOf];omega⟩
  ·have M:k=d.length:=by omega
   subst M
   have a4:decide ((d.length:Int)<d.length)=false:=by simp
   have j:=ze z
   clear z
   go_wp2_with fail
   go_ret
   exact⟨rfl,(ud V).trans ((ud j).mono (ud V).size)⟩
theorem Qo{QL QL':List (Tok×Lse)}(d:(QL.map (fun q=>q.2.job)).Nodup)(c:(QL'.map (fun q=>q.2.job)).Nodup){x:Tsk}(h:∀q,q.2.job=x.key->(q∈QL↔q∈QL')):ji QL x=ji QL' x:=by
 rcases Zt QL x with⟨q,b,a,e⟩|⟨hn,e⟩
 ·rw[e,XS c ((h q a).1 b) a]
 ·rw[e,Zc (fun q b a=>hn q ((h q a).2 b) a)]
theorem jw{QL QL':List (Tok×Lse)}{x:Tsk}(h:ji QL x=ji QL' x):yU QL x=yU QL' x:=by
 unfold yU;rw[h]
theorem zmn{QL:List (Tok×Lse)}{x y:Tsk}(h:yU QL x=yU QL y):x=y:=by
 have:=congrArg zdq h
 rwa[kn,kn]at this
theorem QO{a:List Tsk}(k:a.Nodup){QL QL':List (Tok×Lse)}{j:Nat}{x x':Tsk}(b:(a.map (yU QL))[j]?=J (yU QL x))(f:Tk->Tk)(o:f (yU QL x)=yU QL' x')(q:∀y∈a,y≠x->yU QL y=yU QL' y):a[j]?=J x/\(a.map (yU QL)).modify j f=(a.set j x').map (yU QL'):=by
 have l:a[j]?=J x:=by
  rw[List.getElem?_map]at b
  cases h:a[j]? with
  |none=>rw[h]at b;cases b
  |some y=>rw[h]at b;injection b with b;rw[zmn b]
 refine⟨l,?_⟩
 obtain⟨d,g⟩:=List.getElem?_eq_some_iff.1 l
 apply List.ext_getElem?
 intro i
 rw[List.getElem?_modify,List.getElem?_map,List.getElem?_map,List.getElem?_set]
 by_cases e:j=i
 ·subst e
  rw[l]
  simp[d,o]
 ·rw[if_neg e]
  cases n:a[i]? with
  |none=>simp[e]
  |some y=>
   have m:y≠x:=fun h=>by
    subst h
    obtain⟨p,c⟩:=List.getElem?_eq_some_iff.1 n
    exact e ((List.getElem_inj k).1 (g.trans c.symm))
   simp[e,q y (List.mem_of_getElem? n) m]
theorem vG{α β:Type}{f:α->β}:∀{l:List α},(l.map f).Nodup->l.Nodup
 |[],_=>List.nodup_nil
 |a::l,h=>by
  rw[List.map_cons,List.nodup_cons]at h
  exact List.nodup_cons.2 ⟨fun b=>h.1 (List.mem_map.2 ⟨a,b,rfl⟩),vG h.2⟩
theorem xB.nodup{c:Cf}{ep:Int}{m:MS}(b:MOk c ep m){d:List Tsk}(a:d.Perm (m.TL.map (·.2))):d.Nodup:=by
 rw[a.nodup_iff]
 have f:((m.TL.map (·.2)).map Tsk.key).Nodup:=by
  rw[List.map_map]
  have e:m.TL.map (Tsk.key∘fun p:Jk×Tsk=>p.2)=zj m.TL:=by
   unfold zj
   apply List.map_congr_left
   intro p a
   exact(b.td p a).key.symm
  rw[e];exact b.nt
 exact vG f
theorem xB.taken{c:Cf}{ep:Int}{m:MS}{l:List Tk}(b:MOk c ep m)(h:xB m.TL m.QL l){QL':List (Tok×Lse)}(v:(QL'.map (fun q=>q.2.job)).Nodup){t:Tok}{p:Jk×Tsk}(w:p∈m.TL){slot til:Int}(hn:∀q∈m.QL,q.2.job≠p.2.key)(x:∀q,q∈QL'↔q=(t,⟨p.2.kd,p.2.s,slot,til⟩)\/q∈m.QL){j:Nat}(D:l[j]?=J (yU m.QL p.2)):xB m.TL QL' (l.modify j (Tk.leased t.ep t.num slot til)):=by
 obtain⟨u,a,G,rfl⟩:=h
 have d:(⟨p.2.kd,p.2.s,slot,til⟩:Lse).job=p.2.key:=rfl
 have o:ji QL' p.2=(t,slot,til):=XS v (q:=(t,⟨p.2.kd,p.2.s,slot,til⟩)) ((x _).2 (.inl rfl)) d
 obtain⟨H,C⟩:=QO (QL':=QL') (x':=p.2) (xB.nodup b a) D (Tk.leased t.ep t.num slot til) (by unfold Tk.leased yU;rw[o]) (fun y I r=>jw (Qo b.jobs v (fun q F=>by
  rw[x]
  constructor
  ·exact .inr
  ·rintro(rfl|h)
   ·exfalso
    obtain⟨i,e,rfl⟩:=List.mem_map.1 (a.mem_iff.1 I)
    have B:i.1=p.1:=by rw[(b.td i e).key,(b.td p w).key];exact F.symm
    have z:zD m.TL p.1=J p.2:=xp b.nt w
    have g:zD m.TL i.1=J i.2:=xp b.nt e
    rw[B,z]at g
    injection g with g
    exact r g.symm
   ·exact h)))
 rw[C]
 obtain⟨k,n⟩:=List.getElem?_eq_some_iff.1 H
 have f:u.set j p.2=u:=by rw[<-n];exact List.set_getElem_self k
 rw[f]
 exact⟨u,a,G,rfl⟩
theorem zaG{w W:A}{i:Ids}{c:Cf}{ep:Int}{m:MS}{q:JM}(h:zQ w i c ep m q)(b:Q w.1.size w W):∀k,zG W i k->zG w i k:=by
 rintro k (e|e)
 ·exact .inl e
 ·right
  have a:fsB W i.d=fsB w i.d:=by unfold fsB;rw[b.cell (p:=(U i.d 0)) h.dlt]
  rw[<-a];exact e
theorem XM{w W:A}{i:Ids}{c:Cf}{ep:Int}{m:MS}{q:JM}(h:zQ w i c ep m q)(a:Q w.1.size w W):¬zG W i w.1.size:=fun e=>absurd (h.foot_lt _ (zaG h a _ e)) (Nat.lt_irrefl _)
def zgD(w':A)(i:Ids)(c:Cf)(ep:Int)(m:MS)(q:JM)(t:Tok)(g:Lse)(xs:List SX)(e:Ending):Prop:=
 (jU q.S (xS m.now xs)=false/\e=.returned (I 13)/\zQ w' i c ep m {ZL q (xS m.now xs)with dn:=true})
 \/(jU q.S (xS m.now xs)=true/\e=.returned (I 0)/\∃b a,Vj (m.took m.now xs) q b m.now xs/\zQ w' i c ep {m.took m.now xs with TL:=a,QL:=xa m.QL t} b/\xA c {m.took m.now xs with TL:=xa m.TL g.job,QL:=xa m.QL t} a)
theorem zhx{w:A}{i:Ids}{c:Cf}{ep:Int}{m:MS}{q:JM}(h:zQ w i c ep m q)(hc:c.ok)(t:Tok)(ht:t.wf){g:Lse}(hg:zD m.QL t=J g)(hj:g.job.wf)(x:Tsk)(hx:zD m.TL g.job=J x)(xs:List SX)
  (f:∀W,Q w.1.size w W->Hid (Calls prog 53 #[(O i.x),zmG (J x)] W fun e w'=>∃v,e=.returned v/\vW w' W.1.size v xs/\Q W.1.size W w'))
  (aq:0<=m.now/\m.now<=100000) (aN:m.TL.length<=50000)
  (ar:∀x∈xs,okX x) (a4:∀x∈vA (m.took m.now xs).L (m.took m.now xs).Gl,okX x) (aG:xs.length<=1000) (aF:m.L.length<=900000) (aE:m.Gl.length<=49000000) (N:Nat) (hN:N<=900000000000) (hd:DOk q.S N) (aH:0<=q.st/\q.st<=1099511627776)
  (al:∀p∈(m.took m.now xs).L,inR c p.1) (Z:(m.took m.now xs).L.length<=2000):
  Calls prog 20 #[(O i.x),.agg #[I t.ep,I t.num]] w fun e w'=>zgD w' i c ep m q t g xs e/\Kx i w w':=by
 have aa:Q w.1.size w (w.alloc (.cells #[I t.ep,I t.num] 49)):=(Y _ _).alloc (Nat.le_refl _) _
 have q0:=zp w (.cells #[I t.ep,I t.num] 49)
 have qz:=zN w (.cells #[I t.ep,I t.num] 49)
 have hX:=h.later aa
 obtain⟨-,-,-,-,-,-,-,-,c8,-,ah⟩:=hX.own.cells
 have aP:=hX.lt
 have aM:=zd q0
 obtain⟨k0,k1,-⟩:=zc q0
 have ap:(⟨(yP (zD m.QL t)).kd,(yP (zD m.QL t)).s⟩:Jk).wf:=by rw[hg];exact hj
 have HL:∀W,Q w.1.size w W->Hid (Calls prog 51 #[(O i.b),.agg #[I t.ep,I t.num]] W (Rz W (.tuple #[zmG (J x),.bool true]))):=fun W hW=>by
  have:=jC ((h.later (w':=W) hW).board) t ht ap
  rw[hg]at this
  have e1:zD m.TL ⟨(yP (J g)).kd,(yP (J g)).s⟩=J x:=hx
  rw[e1]at this
  exact this
 have a2:=fun W (hW:Q w.1.size w W) base v hv=>Xm (h.later hW) m.now (by unfold xg;omega) xs ar a4 aG aF aE N hN hd aH base v hv
 generalize zmG (J x)=JV at HL f
 have a1:=ze aa
 have QZ:=ze qz
 have H:=ze h
 have Q0:=ze q0
 have HG:=ze hg
 have aK:=ze hx
 have ad:=ze aq
 clear h hX aa q0 qz ap hg hx ar a4 hd
 unfold zgD
 cases a3:jU q.S (xS m.now xs)
 ·have y:=fun W (hW:Q w.1.size w W) base v hv=>ze ((a2 W hW base v hv).mono (fun e T hh=>(⟨(ZD hh.1 a3).1,(Q6 hh.1).1,(ZD hh.1 a3).2,hh.2⟩:e=.returned (I 13)/\T.cell? (U i.x 8)=J (I m.now)/\zQ T i c ep m {ZL q (xS m.now xs)with dn:=true}/\Kx i W T)))
  clear a2 al Z
  go_enter func20,ntmps20
  go_wp2_with fail
  have p1:w.1.size<w.1.size+1:=by omega
  have p2:i.x<w.1.size+1:=by have:=ud QZ;omega
  generalize(w.alloc (.cells #[I t.ep,I t.num] 49))=X at*
  generalize hN:w.1.size+1=N at*
  have ac:Nonempty (xc N X):=xc.some _ _
  have ab:=fun(u:xc N X) b o h=>u.cell b o h
  have R:N<=X.1.size:=by rw[ud QZ];exact Nat.le_refl _
  have a5:=ze R
  have K:Hid (w.1.size<=N):=by show w.1.size<=N;omega
  have HN:=ze hN
  clear R hN
  refine zx N (by kernel_rfl) (by kernel_rfl) ?_
  repeat(go_big_quiet_step (first
   |(go_at_call 51;exact Calls.later (ud a5) (ud (HL _ ((ud a1).trans (Below.mono (Subtype.property _) (ud K))))))))
  refine wpQuiet_nil ?_
  rintro⟨w1,C⟩
  clear ab ac
  dsimp only
  have j:=(ud a1).trans (C.mono (ud K))
  have z:=(ud H).later j
  obtain⟨-,-,-,-,-,-,-,-,e8,-,-⟩:=z.own.cells
  have a0:=z.lt
  have D:=f w1 j
  have F:=f w1.drew j.drew
  have G:=ze j
  clear f k0 k1 c8 ah C j HL z
  go_wp2_with fail
  go_region_held3 (fun w'=>w'.cell? (U i.x 8)=J (I m.now)) (go_keep) (first
   |(go_at_call 53;(first|(with_reducible refine(ud D).mono ?_)|(with_reducible refine(ud F).mono ?_));rintro e V ⟨v,rfl,l,d⟩;have hv:Q w1.1.size w1 V:=⟨d.os,d.tape,d.output,d.size,d.block⟩;clear d;have v8:=(hv.cell (p:=(U i.x 8)) a0).trans e8;have aI:=Nat.lt_of_lt_of_le a0 hv.size;have n:=(ud G).trans (hv.mono (ud G).size);have a7:=y V n _ v l;have a8:=y V.drew n.drew _ v (zR l (Y _ _).drew);have r:=ze n;clear hv n l y D F)
   |(go_at_call 52;(with_reducible refine(ud a7).mono ?_);rintro e T ⟨rfl,t8,M,B⟩;have HM:=ze M;have HK:=ze ((Kx.below (ud r) (ud H).dlt).trans B);clear M B)
   |(go_at_call 52;(with_reducible refine(ud a8).mono ?_);rintro e T ⟨rfl,t8,M,B⟩;have HM:=ze M;have HK:=ze ((Kx.below (ud r).drew (ud H).dlt).trans B);clear M B))
  all_goals go_wp2_with fail
  all_goals go_ret
  all_goals exact⟨.inl ⟨trivial,rfl,ud HM⟩,ud HK⟩
 ·have y:=fun W (hW:Q w.1.size w W) base v hv=>ze ((a2 W hW base v hv).mono (fun e T hh=>(⟨(vr hh.1 a3).1,(Q6 hh.1).1,(vr hh.1 a3).2,hh.2⟩:e=.returned (I 0)/\T.cell? (U i.x 8)=J (I m.now)/\(∃q',Vj (m.took m.now xs) q q' m.now xs/\zQ T i c ep (m.took m.now xs) q')/\Kx i W T)))
  clear a2
  go_enter func20,ntmps20
  go_wp2_with fail
  have p1:w.1.size<w.1.size+1:=by omega
  have p2:i.x<w.1.size+1:=by have:=ud QZ;omega
  generalize(w.alloc (.cells #[I t.ep,I t.num] 49))=X at*
  generalize hN:w.1.size+1=N at*
  have ac:Nonempty (xc N X):=xc.some _ _
  have ab:=fun(u:xc N X) b o h=>u.cell b o h
  have R:N<=X.1.size:=by rw[ud QZ];exact Nat.le_refl _
  have a5:=ze R
  have K:Hid (w.1.size<=N):=by show w.1.size<=N;omega
  have HN:=ze hN
  clear R hN
  refine zx N (by kernel_rfl) (by kernel_rfl) ?_
  repeat(go_big_quiet_step (first
   |(go_at_call 51;exact Calls.later (ud a5) (ud (HL _ ((ud a1).trans (Below.mono (Subtype.property _) (ud K))))))))
  refine wpQuiet_nil ?_
  rintro⟨w1,C⟩
  clear ab ac
  dsimp only
  have j:=(ud a1).trans (C.mono (ud K))
  have z:=(ud H).later j
  obtain⟨-,-,-,-,-,-,-,-,e8,-,-⟩:=z.own.cells
  have a0:=z.lt
  have au:=(C.block _ (show w.1.size<N by have:=ud HN;omega)).trans (ud Q0)
  have ae:=ze au
  have D:=f w1 j
  have F:=f w1.drew j.drew
  have G:=ze j
  clear f k0 k1 c8 ah C j HL z au
  go_wp2_with fail
  go_region_held3 (fun w'=>w'.cell? (U i.x 8)=J (I m.now)) (go_keep) (first
   |(go_at_call 53;(first|(with_reducible refine(ud D).mono ?_)|(with_reducible refine(ud F).mono ?_));rintro e V ⟨v,rfl,l,d⟩;have hv:Q w1.1.size w1 V:=⟨d.os,d.tape,d.output,d.size,d.block⟩;clear d;have v8:=(hv.cell (p:=(U i.x 8)) a0).trans e8;have aI:=Nat.lt_of_lt_of_le a0 hv.size;have n:=(ud G).trans (hv.mono (ud G).size);have af:=ze ((hv.block _ (zd (ud ae))).trans (ud ae));have a7:=y V n _ v l;have a8:=y V.drew n.drew _ v (zR l (Y _ _).drew);have r:=ze n;clear hv n l y D F)
   |(go_at_call 52;(with_reducible refine(ud a7).mono ?_);rintro e T ⟨rfl,t8,⟨q',hA,M⟩,B⟩;have a6:=ze (B.kept.heap (ud af) (XM (ud H) (ud r)));have HA:=ze hA;have HM:=ze M;have HK:=ze ((Kx.below (ud r) (ud H).dlt).trans B);clear M B hA)
   |(go_at_call 52;(with_reducible refine(ud a8).mono ?_);rintro e T ⟨rfl,t8,⟨q',hA,M⟩,B⟩;have a6:=ze (B.kept.heap (k:=w.1.size) (ud af) (XM (ud H) (ud r).drew));have HA:=ze hA;have HM:=ze M;have HK:=ze ((Kx.below (ud r).drew (ud H).dlt).trans B);clear M B hA))
  all_goals(
   have P:zQ T i c ep {m with L:=(m.took m.now xs).L,Gl:=(m.took m.now xs).Gl} q':=ud HM
   obtain⟨-,-,-,-,-,-,-,-,-,-,aL⟩:=P.own.cells
   have aO:=P.lt
   obtain⟨t0,t1,-⟩:=zc (ud a6)
   have aJ:=zd (ud a6)
   have av:=ze (zkG ((P.later (Y _ _).drew).board) t ht (ud HG) hj)
   have ay:=ze P
   clear P
   go_wp2_with fail
   refine xK 5 (by kernel_rfl) (by kernel_rfl) ?_
   simp only[List.take_succ_cons,List.take_zero,List.drop_succ_cons,List.drop_zero]
   repeat still_step
   refine wpStill_nil ?_
   go_wp2_with(first|(go_at_call 54;refine(ud av).mono ?_;rintro e V2 ⟨rfl,ai,hK2⟩;have aC:=ze ai;have aw:=ze hK2;clear ai hK2))
   have ao:zh (jT i.b i.tb i.qb) T V2:=((zh.refl (jT i.b i.tb i.qb) T).drew).trans ((ud aw).mono (fun k _ e=> .inr e)) (fun _ _ e=>e)
   obtain⟨a9,aj⟩:=(ud ay).putBoard (ud aC) ao
   have aB:=ze (JF a9.own hc al Z (ud ad) (by have:=KO (L:=m.TL) (a:=g.job);show(xa m.TL g.job).length<=50000;omega))
   have az:=ze a9
   have ax:=ze ((ud HK).trans aj)
   clear ao a9 aj
   go_wp2_with(first|(go_at_call 55;refine(ud aB).mono ?_;rintro e V3 ⟨rfl,aD,am,ak,an⟩;have ag:=ze ((ud az).put am ak (fun k e=> .inr (.inr (.inr (.inl e)))));have aA:=ze an;clear am ak an))
   go_ret
   exact⟨.inr ⟨trivial,rfl,q',aD,ud HA,(ud ag).1,ud aA⟩,(ud ax).trans (ud ag).2⟩)
def JY(x x' z:Tsk):Tsk:=if z.key=x.key then x' else z
theorem zey{x x':Tsk}(h:x'.kd=x.kd/\x'.s=x.s)(z:Tsk):(JY x x' z).kd=z.kd/\(JY x x' z).s=z.s:=by
 unfold JY
 split
 ·rename_i e
  unfold Tsk.key at e
  injection e with a b
  exact⟨h.1.trans a.symm,h.2.trans b.symm⟩
 ·exact⟨rfl,rfl⟩
theorem zmh{a:List Tsk}(g:(a.map Tsk.key).Nodup){j:Nat}{x x':Tsk}(l:a[j]?=J x):a.set j x'=a.map (JY x x'):=by
 obtain⟨b,f⟩:=List.getElem?_eq_some_iff.1 l
 apply List.ext_getElem?
 intro i
 rw[List.getElem?_set,List.getElem?_map]
 by_cases e:j=i
 ·subst e
  rw[l]
  simp[b,JY]
 ·rw[if_neg e]
  cases n:a[i]? with
  |none=>rfl
  |some y=>
   have k:¬y.key=x.key:=fun h=>by
    obtain⟨c,d⟩:=List.getElem?_eq_some_iff.1 n
    have m:(a.map Tsk.key)[j]'(by simpa using b)=(a.map Tsk.key)[i]'(by simpa using c):=by simp[f,d,h]
    exact e ((List.getElem_inj g).1 m)
   simp[JY,k]
theorem xB.failed{c:Cf}{ep:Int}{m:MS}{l:List Tk}(g:MOk c ep m)(h:xB m.TL m.QL l){k:Jk}{x x':Tsk}(O:zD m.TL k=J x)(i:x'.kd=x.kd/\x'.s=x.s){QL':List (Tok×Lse)}(G:(QL'.map (fun q=>q.2.job)).Nodup)(M:∀q,q∈QL'↔q∈m.QL/\q.2.job≠x.key)(f:Tk->Tk)(I:f (yU m.QL x)=yU QL' x'){j:Nat}(K:l[j]?=J (yU m.QL x)):xB (xZ m.TL k x') QL' (l.modify j f):=by
 obtain⟨D,d,N,rfl⟩:=h
 have r:=zB O
 have o:k=x.key:=(g.td _ r).key
 have n:(D.map Tsk.key).Nodup:=by
  have F:((m.TL.map (·.2)).map Tsk.key).Nodup:=by
   rw[List.map_map]
   have e:m.TL.map (Tsk.key∘fun p:Jk×Tsk=>p.2)=zj m.TL:=by
    unfold zj
    apply List.map_congr_left
    intro p r
    exact(g.td p r).key.symm
   rw[e];exact g.nt
  exact((d.map Tsk.key).nodup_iff).2 F
 obtain⟨z,H⟩:=QO (QL':=QL') (x':=x') (xB.nodup g d) K f I (fun y P v=>jw (Qo g.jobs G (fun q L=>by
  rw[M]
  constructor
  ·refine fun h=>⟨h,fun e=>?_⟩
   apply v
   exact yE n y P x (d.mem_iff.2 (List.mem_map.2 ⟨_,r,rfl⟩)) (L.symm.trans e)
  ·exact fun h=>h.1)))
 rw[H,zmh n z]
 refine⟨D.map (JY x x'),?_,?_,rfl⟩
 ·have e:(xZ m.TL k x').map (·.2)=(m.TL.map (·.2)).map (JY x x'):=by
   unfold xZ
   have u:k∈zj m.TL:=List.mem_map.2 ⟨_,r,rfl⟩
   rw[if_pos u,List.map_map,List.map_map]
   apply List.map_congr_left
   intro p w
   have t:=(g.td p w).key
   simp only[Function.comp,JY]
   by_cases e:p.1=k
   ·rw[if_pos e,if_pos (by rw[<-t,e,o])]
   ·rw[if_neg e,if_neg (fun h=>e (by rw[t,h,o]))]
  rw[e]
  exact d.map _
 ·rw[List.pairwise_map]
  refine N.imp (fun{a b} h=>?_)
  have B:=zey i a
  have C:=zey i b
  rw[qH]at h ⊢
  rw[B.1,B.2,C.1,C.2]
  exact h
theorem zhK{c:Cf}{ep:Int}{m:MS}{r:RM}(d:MOk c ep m)(s:xB m.TL m.QL r.td)(hn:r.now=m.now)(y:∀q∈m.QL,0<=q.2.slot)(e n:Int){g:Lse}(k:zD m.QL ⟨e,n⟩=J g){x:Tsk}(p:zD m.TL g.job=J x):
  (r.fail e n).2=0/\(r.fail e n).1={r with td:=(r.fail e n).1.td}/\xB (xZ m.TL g.job (x.failed m.now)) (xa m.QL ⟨e,n⟩) (r.fail e n).1.td:=by
 obtain⟨j,t,u⟩:=Qr d s y e n k p
 have l:g.job=x.key:=(d.td _ (zB p)).key
 have v:r.fail e n=({r with td:=r.td.modify j (Tk.fail r.now)},0):=by unfold RM.fail;rw[t]
 rw[v]
 refine⟨rfl,rfl,?_⟩
 have h:=zB k
 refine xB.failed (x':=x.failed m.now) (QL':=xa m.QL ⟨e,n⟩) d s p ⟨rfl,rfl⟩ (Zu d.jobs _) (fun q=>?_) (Tk.fail r.now) ?_ u
 ·rw[zT]
  constructor
  ·rintro⟨a,b⟩
   exact⟨a,fun f=>Zd d.jobs h (zT.2 ⟨a,b⟩) (f.trans l.symm)⟩
  ·rintro⟨a,b⟩
   refine⟨a,fun f=>b ?_⟩
   have i:zD m.QL q.1=J q.2:=xp d.nq a
   rw[f,k]at i
   injection i with i
   rw[<-i,l]
 ·have o:ji (xa m.QL ⟨e,n⟩) (x.failed m.now)=(⟨0,0⟩,-1,0):=Zc (fun q w f=>Zd d.jobs h w (f.trans l.symm))
  rw[hn]
  unfold Tk.fail yU
  rw[o]
  rfl
theorem Ka(a b:Tk):XW a b=true↔(a.kind<b.kind\/a.kind=b.kind/\(a.s.t<b.s.t\/a.s.t=b.s.t/\(a.s.sr<b.s.sr\/a.s.sr=b.s.sr/\a.s.wn<b.s.wn))):=by
 unfold XW
 repeat' split
 all_goals(simp only[decide_eq_true_eq];omega)
theorem Kc(lt:Tk->Tk->Bool)(x y:Tk):∀l:List Tk,y∈KN lt x l↔y=x\/y∈l
 |[]=>by simp[KN]
 |z::l=>by
  unfold KN
  split
  ·simp
  ·rw[List.mem_cons,Kc lt x y l,List.mem_cons]
   constructor
   ·rintro(h|h|h)
    ·exact .inr (.inl h)
    ·exact .inl h
    ·exact .inr (.inr h)
   ·rintro(h|h|h)
    ·exact .inr (.inl h)
    ·exact .inl h
    ·exact .inr (.inr h)
theorem QX(x:Tk):∀l:List Tk,l.Pairwise (fun a b=>¬XW b a=true)->(KN XW x l).Pairwise (fun a b=>¬XW b a=true)
 |[],_=>by simp[KN]
 |z::l,h=>by
  rw[List.pairwise_cons]at h
  unfold KN
  split
  ·rename_i hlt
   rw[List.pairwise_cons]
   refine⟨fun y c=>?_,List.pairwise_cons.2 h⟩
   rcases List.mem_cons.1 c with rfl|c
   ·rw[Ka]at*;omega
   ·have:=h.1 y c
    rw[Ka]at*;omega
  ·rename_i hlt
   rw[List.pairwise_cons]
   refine⟨fun y c=>?_,QX x l h.2⟩
   rcases(Kc _ _ _ _).1 c with rfl|c
   ·exact hlt
   ·exact h.1 y c
theorem Zf{m:RM}{l:List Sg}{kind:Int}{out:List Tk}{s:Sg}{k:Tk}:k∈vT m l kind out s↔(vk m kind s l=true/\k=yy m kind s)\/k∈out:=by
 unfold vT
 split
 ·rename_i h
  rw[Kc]
  simp[h]
 ·rename_i h
  simp[h]
theorem QY{m:RM}{l:List Sg}{kind:Int}{out:List Tk}{s:Sg}(h:out.Pairwise (fun a b=>¬XW b a=true)):(vT m l kind out s).Pairwise (fun a b=>¬XW b a=true):=by
 unfold vT
 split
 ·exact QX _ _ h
 ·exact h
theorem YR(m:RM)(l:List Sg):∀(xs:List Sg) (out:List Tk),out.Pairwise (fun a b=>¬XW b a=true)->(xs.foldl (fun out s=>vT m l 2 (vT m l 1 out s) s) out).Pairwise (fun a b=>¬XW b a=true)/\∀k,k∈xs.foldl (fun out s=>vT m l 2 (vT m l 1 out s) s) out↔k∈out\/∃s∈xs,∃kind,(kind=1\/kind=2)/\vk m kind s l=true/\k=yy m kind s
 |[],out,h=>⟨h,fun k=>by simp⟩
 |x::xs,out,h=>by
  obtain⟨e,f⟩:=YR m l xs _ (QY (m:=m) (l:=l) (kind:=2) (s:=x) (QY (m:=m) (l:=l) (kind:=1) (s:=x) h))
  refine⟨e,fun k=>?_⟩
  rw[List.foldl_cons,f,Zf,Zf]
  constructor
  ·rintro((⟨a,b⟩|⟨a,b⟩|a)|⟨s,c,a⟩)
   ·exact .inr ⟨x,by simp,2,.inr rfl,a,b⟩
   ·exact .inr ⟨x,by simp,1,.inl rfl,a,b⟩
   ·exact .inl a
   ·exact .inr ⟨s,by simp[c],a⟩
  ·rintro(a|⟨s,c,kind,d,a,b⟩)
   ·exact .inl (.inr (.inr a))
   ·rcases List.mem_cons.1 c with rfl|c
    ·rcases d with rfl|rfl
     ·exact .inl (.inr (.inl ⟨a,b⟩))
     ·exact .inl (.inl ⟨a,b⟩)
    ·exact .inr ⟨s,c,kind,d,a,b⟩
theorem Zk(m:RM):m.settled.td.Pairwise (fun a b=>¬XW b a=true)/\∀k,k∈m.settled.td↔∃s∈xb m.c m.nu,∃kind,(kind=1\/kind=2)/\vk m kind s (xb m.c m.nu)=true/\k=yy m kind s:=by
 have h:=YR m (xb m.c m.nu) (xb m.c m.nu) [] List.Pairwise.nil
 have e:m.settled.td=(xb m.c m.nu).foldl (fun out s=>vT m (xb m.c m.nu) 2 (vT m (xb m.c m.nu) 1 out s) s) []:=by
  unfold RM.settled ZB
  simp only[List.take_length]
 rw[e]
 refine⟨h.1,fun k=>?_⟩
 rw[h.2]
 simp
theorem VP(lt:Tk->Tk->Bool)(x:Tk):∀l:List Tk,(KN lt x l).Perm (x::l)
 |[]=> .refl _
 |z::l=>by
  unfold KN
  split
  ·exact .refl _
  ·exact((VP lt x l).cons z).trans (.swap x z l)
theorem vu(m:RM)(kind:Int)(s:Sg):(yy m kind s).kind=kind/\(yy m kind s).s=s:=by
 unfold yy
 have:∀(l:List Tk) (t:Tk),t.kind=kind/\t.s=s->(l.foldl (kE kind s) t).kind=kind/\(l.foldl (kE kind s) t).s=s:=fun l=>by
  induction l with
  |nil=>exact fun t h=>h
  |cons x l a=>
   intro t h
   refine a _ ?_
   unfold kE
   split
   ·rename_i e;exact e
   ·exact h
 exact this _ _ ⟨rfl,rfl⟩
theorem Vr(m:RM)(l:List Sg):∀(xs:List Sg) (out:List Tk),xs.Nodup->out.Nodup->(∀k∈out,k.s∉xs)->(xs.foldl (fun out s=>vT m l 2 (vT m l 1 out s) s) out).Nodup
 |[],out,_,h,_=>h
 |x::xs,out,c,h,d=>by
  rw[List.nodup_cons]at c
  rw[List.foldl_cons]
  have b:∀(kind:Int) (o:List Tk),o.Nodup->(∀k∈o,k.s=x->k.kind≠kind)->(vT m l kind o x).Nodup:=fun kind o f a=>by
   unfold vT
   split
   ·rw[(VP _ _ _).nodup_iff,List.nodup_cons]
    exact⟨fun j=>a _ j (vu m kind x).2 (vu m kind x).1,f⟩
   ·exact f
  have g:=b 1 out h (fun k a e=>absurd (by simp[e]) (d k a))
  have i:=b 2 _ g (fun k a e=>by
   rcases Zf.1 a with⟨-,rfl⟩|a
   ·rw[(vu m 1 x).1];decide
   ·exact absurd (by simp[e]) (d k a))
  refine Vr m l xs _ c.2 i (fun k a=>?_)
  rcases Zf.1 a with⟨-,rfl⟩|a
  ·rw[(vu m 2 x).2];exact c.1
  ·rcases Zf.1 a with⟨-,rfl⟩|a
   ·rw[(vu m 1 x).2];exact c.1
   ·exact fun e=>d k a (by simp[e])
theorem JU(m:RM):m.settled.td.Nodup:=by
 have e:m.settled.td=(xb m.c m.nu).foldl (fun out s=>vT m (xb m.c m.nu) 2 (vT m (xb m.c m.nu) 1 out s) s) []:=by
  unfold RM.settled ZB
  simp only[List.take_length]
 rw[e]
 exact Vr m _ _ [] (QT _ _) List.nodup_nil (fun k a=>by cases a)
theorem xB.of_settled{TL:List (Jk×Tsk)}{QL:List (Tok×Lse)}{r:RM}(c:∀p∈TL,p.1=p.2.key)(hn:(zj TL).Nodup)(m:∀p∈TL,yU QL p.2∈r.settled.td)(i:∀k∈r.settled.td,∃p∈TL,k=yU QL p.2):xB TL QL r.settled.td:=by
 have g:(r.settled.td.map zdq).map (yU QL)=r.settled.td:=by
  rw[List.map_map]
  conv=>rhs;rw[<-List.map_id r.settled.td]
  apply List.map_congr_left
  intro k c
  obtain⟨p,-,rfl⟩:=i k c
  simp only[Function.comp,kn,id]
 have j:(r.settled.td.map zdq).Nodup:=vG (f:=yU QL) (by rw[g];exact JU r)
 have l:(TL.map (·.2)).Nodup:=by
  refine vG (f:=Tsk.key) ?_
  rw[List.map_map]
  have e:TL.map (Tsk.key∘fun p:Jk×Tsk=>p.2)=zj TL:=by
   unfold zj
   apply List.map_congr_left
   intro p d
   exact(c p d).symm
  rw[e];exact hn
 refine⟨r.settled.td.map zdq,?_,?_,g.symm⟩
 ·rw[List.perm_ext_iff_of_nodup j l]
  intro x
  rw[List.mem_map,List.mem_map]
  constructor
  ·rintro⟨k,c,rfl⟩
   obtain⟨p,d,rfl⟩:=i k c
   exact⟨p,d,by rw[kn]⟩
  ·rintro⟨p,d,rfl⟩
   exact⟨_,m p d,by rw[kn]⟩
 ·rw[List.pairwise_map]
  refine List.Pairwise.imp_of_mem (fun{a b} n o h=>?_) (Zk r).1
  obtain⟨p,-,rfl⟩:=i a n
  obtain⟨q,-,rfl⟩:=i b o
  rw[kn,kn,qH]
  rw[Ka]at h
  exact h
theorem zpz{T:List (Jk×Tsk)}(hn:(zj T).Nodup)(now:Int)(b:Bool)(kd:Int)(s:Sg)(k:Jk)(x:Tsk):∀a,(a=match zD T ⟨kd,s⟩with|some _=>T|none=>xZ T ⟨kd,s⟩ ⟨b,s,now,0,0⟩)->((zj a).Nodup/\(zD a k=J x↔zD T k=J x\/(zD T k=E/\k=⟨kd,s⟩/\x=⟨b,s,now,0,0⟩))):=by
 rintro a rfl
 split
 ·rename_i y hy
  refine⟨hn,⟨.inl,?_⟩⟩
  rintro(h|⟨c,d,-⟩)
  ·exact h
  ·rw[d,hy]at c;cases c
 ·rename_i hy
  refine⟨qc hn,?_⟩
  rw[kJ hn]
  by_cases e:k=⟨kd,s⟩
  ·rw[if_pos e,e,hy]
   simp[eq_comm]
  ·rw[if_neg e]
   simp[e]
theorem zaJ{now:Int}:∀(i:List Sg) {T:List (Jk×Tsk)},(zj T).Nodup->(zj (i.foldl (qJ now) T)).Nodup/\∀k x,zD (i.foldl (qJ now) T) k=J x↔zD T k=J x\/(zD T k=E/\∃s∈i,k=⟨1,s⟩/\x=⟨true,s,now,0,0⟩)
 |[],T,hn=>⟨hn,fun k x=>by simp⟩
 |y::i,T,hn=>by
  have c:=fun k x=>zpz hn now true 1 y k x (qJ now T y) rfl
  obtain⟨l,m⟩:=zaJ i (c ⟨1,y⟩ ⟨true,y,now,0,0⟩).1
  refine⟨l,fun k x=>?_⟩
  rw[List.foldl_cons,m,(c k x).2]
  have j:zD (qJ now T y) k=E↔zD T k=E/\k≠⟨1,y⟩:=by
   constructor
   ·intro h
    refine⟨?_,fun e=>?_⟩
    ·cases f:zD T k with
     |none=>rfl
     |some z=>rw[(c k z).2.2 (.inl f)]at h;cases h
    ·cases f:zD T k with
     |none=>rw[(c k _).2.2 (.inr ⟨f,e,rfl⟩)]at h;cases h
     |some z=>rw[(c k z).2.2 (.inl f)]at h;cases h
   ·rintro⟨a,b⟩
    cases f:zD (qJ now T y) k with
    |none=>rfl
    |some z=>
     rcases(c k z).2.1 f with h|⟨-,h,-⟩
     ·rw[a]at h;cases h
     ·exact absurd h b
  rw[j]
  constructor
  ·rintro((a|⟨a,b,d⟩)|⟨⟨a,-⟩,s,g,b,d⟩)
   ·exact .inl a
   ·exact .inr ⟨a,y,by simp,b,d⟩
   ·exact .inr ⟨a,s,by simp[g],b,d⟩
  ·rintro(a|⟨a,s,g,b,d⟩)
   ·exact .inl (.inl a)
   ·by_cases e:k=⟨1,y⟩
    ·have:s=y:=by rw[b]at e;injection e
     subst this
     exact .inl (.inr ⟨a,b,d⟩)
    ·rcases List.mem_cons.1 g with rfl|g
     ·exact absurd b e
     ·exact .inr ⟨⟨a,e⟩,s,g,b,d⟩
theorem zaI{now:Int}:∀(i:List Sg) {T:List (Jk×Tsk)},(zj T).Nodup->(zj (i.foldl (ya now) T)).Nodup/\∀k x,zD (i.foldl (ya now) T) k=J x↔zD T k=J x\/(zD T k=E/\∃s∈i,k=⟨2,s⟩/\x=⟨false,s,now,0,0⟩)
 |[],T,hn=>⟨hn,fun k x=>by simp⟩
 |y::i,T,hn=>by
  have c:=fun k x=>zpz hn now false 2 y k x (ya now T y) rfl
  obtain⟨l,m⟩:=zaI i (c ⟨2,y⟩ ⟨false,y,now,0,0⟩).1
  refine⟨l,fun k x=>?_⟩
  rw[List.foldl_cons,m,(c k x).2]
  have j:zD (ya now T y) k=E↔zD T k=E/\k≠⟨2,y⟩:=by
   constructor
   ·intro h
    refine⟨?_,fun e=>?_⟩
    ·cases f:zD T k with
     |none=>rfl
     |some z=>rw[(c k z).2.2 (.inl f)]at h;cases h
    ·cases f:zD T k with
     |none=>rw[(c k _).2.2 (.inr ⟨f,e,rfl⟩)]at h;cases h
     |some z=>rw[(c k z).2.2 (.inl f)]at h;cases h
   ·rintro⟨a,b⟩
    cases f:zD (ya now T y) k with
    |none=>rfl
    |some z=>
     rcases(c k z).2.1 f with h|⟨-,h,-⟩
     ·rw[a]at h;cases h
     ·exact absurd h b
  rw[j]
  constructor
  ·rintro((a|⟨a,b,d⟩)|⟨⟨a,-⟩,s,g,b,d⟩)
   ·exact .inl a
   ·exact .inr ⟨a,y,by simp,b,d⟩
   ·exact .inr ⟨a,s,by simp[g],b,d⟩
  ·rintro(a|⟨a,s,g,b,d⟩)
   ·exact .inl (.inl a)
   ·by_cases e:k=⟨2,y⟩
    ·have:s=y:=by rw[b]at e;injection e
     subst this
     exact .inl (.inr ⟨a,b,d⟩)
    ·rcases List.mem_cons.1 g with rfl|g
     ·exact absurd b e
     ·exact .inr ⟨⟨a,e⟩,s,g,b,d⟩
theorem xA.get{c:Cf}{m:MS}{i:List (Jk×Tsk)}(hn:(zj m.TL).Nodup)(v:xA c m i):∃(j:List (Sg×Unit)),(∀x,x∈zj j↔∃k,k∈zn m.L/\(stL m.L k).st=2/\x∈yI c k)/\(zj i).Nodup/\∀k x,zD i k=J x↔zD m.TL k=J x\/(zD m.TL k=E/\∃s∈zn m.L,(yR c j m.L m.now s=true/\k=⟨1,s⟩/\x=⟨true,s,m.now,0,0⟩)\/(yQ c m.L m.now s=true/\k=⟨2,s⟩/\x=⟨false,s,m.now,0,0⟩)):=by
 obtain⟨j,g,r,u,n,o,rfl⟩:=v.to
 obtain⟨n1,l⟩:=zaJ (now:=m.now) g hn
 obtain⟨w,t⟩:=zaI (now:=m.now) r n1
 refine⟨j,u,w,fun k x=>?_⟩
 rw[t,l]
 have q:zD (g.foldl (qJ m.now) m.TL) k=E↔zD m.TL k=E/\∀s∈g,k≠⟨1,s⟩:=by
  constructor
  ·intro h
   have a:zD m.TL k=E:=by
    cases p:zD m.TL k with
    |none=>rfl
    |some z=>rw[(l k z).2 (.inl p)]at h;cases h
   exact⟨a,fun s f e=>by rw[(l k _).2 (.inr ⟨a,s,f,e,rfl⟩)]at h;cases h⟩
  ·rintro⟨a,b⟩
   cases p:zD (g.foldl (qJ m.now) m.TL) k with
   |none=>rfl
   |some z=>
    rcases(l k z).1 p with h|⟨-,s,f,e,-⟩
    ·rw[a]at h;cases h
    ·exact absurd e (b s f)
 rw[q]
 constructor
 ·rintro((a|⟨a,s,f,b,d⟩)|⟨⟨a,-⟩,s,f,b,d⟩)
  ·exact .inl a
  ·exact .inr ⟨a,s,((n s).1 f).1,.inl ⟨((n s).1 f).2,b,d⟩⟩
  ·exact .inr ⟨a,s,((o s).1 f).1,.inr ⟨((o s).1 f).2,b,d⟩⟩
 ·rintro(a|⟨a,s,f,⟨h,b,d⟩|⟨h,b,d⟩⟩)
  ·exact .inl (.inl a)
  ·exact .inl (.inr ⟨a,s,(n s).2 ⟨f,h⟩,b,d⟩)
  ·exact .inr ⟨⟨a,fun B _ e=>by rw[b]at e;injection e with y;omega⟩,s,(o s).2 ⟨f,h⟩,b,d⟩
def ms0:MS:=⟨0,[],[],0,[],[]⟩
def okN(x:SX):Prop:=x.2.st=2\/x.2.st=4->x.2.cl=qt
inductive jO (c:Cf) (ep:Int):MS->List Nm->ByteArray->Prop
 |start (m:MS) (ns:List Nm) (txt:ByteArray) (hf:c.fits) (hs:SOk c ep m ns.length) (ho:∀x∈vA m.L m.Gl,okX x) (hn0:∀x∈vA m.L m.Gl,okN x) (h1:ep=1->m=ms0/\ns=[]/\txt=xS 0 []++nl):jO c ep m ns txt
 |laid (m:MS) (ns:List Nm) (txt:ByteArray) (m':MS) (ns':List Nm) (xs:List SX) (h:jO c ep m ns txt) (ha:yL c ep m ns m' ns') (hx:∀x∈xs,okX x) (hL:m'.L=(qh (m.Gl,m.L) xs).2) (hG:m'.Gl=(qh (m.Gl,m.L) xs).1) (hxn:∀x∈xs,okN x) (hnd:(xs.map (·.1)).Nodup) (hxl:xs.length<=1000):jO c ep m' ns' (txt++(xS m'.now xs++nl))
 |quiet (m:MS) (ns:List Nm) (txt:ByteArray) (m':MS) (ns':List Nm) (h:jO c ep m ns txt) (ha:yL c ep m ns m' ns') (hn:m'.now=m.now) (hL:m'.L=m.L) (hG:m'.Gl=m.Gl):jO c ep m' ns' txt
 |anew (m:MS) (ns:List Nm) (txt:ByteArray) (ys:List SX) (h:jO c ep m ns txt) (hp:ys.Perm (vA m.L m.Gl)):jO c ep m ns (xS m.now ys++nl)
theorem XZ:∀(xs:List SX) (G:List (Sg×Unit)) (L:LV),(∀x∈vA L G,okX x)->(∀x∈xs,okX x)->∀x∈vA (qh (G,L) xs).2 (qh (G,L) xs).1,okX x
 |[],G,L,h,_=>h
 |y::xs,G,L,h,d=>by
  have f:=d y (by simp)
  have b:∀x∈vA (jm (G,L) y).2 (jm (G,L) y).1,okX x:=fun x a=>by
   unfold jm vA at a
   split at a
   ·rcases List.mem_append.1 a with a|a
    ·exact h x (List.mem_append_left _ (zT.1 a).1)
    ·obtain⟨g,c,rfl⟩:=List.mem_map.1 a
     rcases qF c with rfl|⟨c,_⟩
     ·exact⟨f.key,by show xg 4;unfold xg;omega,by show xg 0;unfold xg;omega,by show xg 0;unfold xg;omega,by show(-2147483648:Int)<=0/\(0:Int)<=2147483647;omega,by show(-2147483648:Int)<=0/\(0:Int)<=2147483647;omega⟩
     ·exact h _ (List.mem_append_right _ (List.mem_map.2 ⟨g,c,rfl⟩))
   ·rcases List.mem_append.1 a with a|a
    ·rcases qr a with rfl|⟨a,_⟩
     ·exact f
     ·exact h x (List.mem_append_left _ a)
    ·exact h x (List.mem_append_right _ a)
  have e:qh (G,L) (y::xs)=qh ((jm (G,L) y).1,(jm (G,L) y).2) xs:=rfl
  rw[e]
  exact XZ xs _ _ b (fun x a=>d x (by simp[a]))
theorem zed:∀(xs:List SX) (G:List (Sg×Unit)) (L:LV),(∀x∈vA L G,okN x)->(∀x∈xs,okN x)->∀x∈vA (qh (G,L) xs).2 (qh (G,L) xs).1,okN x
 |[],G,L,h,_=>h
 |y::xs,G,L,h,d=>by
  have f:=d y (by simp)
  have b:∀x∈vA (jm (G,L) y).2 (jm (G,L) y).1,okN x:=fun x a=>by
   unfold jm vA at a
   split at a
   ·rcases List.mem_append.1 a with a|a
    ·exact h x (List.mem_append_left _ (zT.1 a).1)
    ·obtain⟨g,c,rfl⟩:=List.mem_map.1 a
     rcases qF c with rfl|⟨c,_⟩
     ·exact fun _=>rfl
     ·exact h _ (List.mem_append_right _ (List.mem_map.2 ⟨g,c,rfl⟩))
   ·rcases List.mem_append.1 a with a|a
    ·rcases qr a with rfl|⟨a,_⟩
     ·exact f
     ·exact h x (List.mem_append_left _ a)
    ·exact h x (List.mem_append_right _ a)
  have e:qh (G,L) (y::xs)=qh ((jm (G,L) y).1,(jm (G,L) y).2) xs:=rfl
  rw[e]
  exact zed xs _ _ b (fun x a=>d x (by simp[a]))
section
variable {c:Cf} {ep:Int} {m:MS} {ns:List Nm} {txt:ByteArray}
theorem jO.fits(h:jO c ep m ns txt):c.fits:=by
 induction h with
 |start m ns txt g q o i n=>exact g
 |laid m ns txt m' b xs h f r e d l j k a=>exact a
 |quiet m ns txt m' b h f hn e d a=>exact a
 |anew m ns txt s h p a=>exact a
theorem jO.sok(h:jO c ep m ns txt)(f:c.ok):SOk c ep m ns.length:=by
 have d:=h.fits
 induction h with
 |start m ns txt d l q j p=>exact l
 |laid m ns txt m' e xs h b s i g o k n a=>exact b.ok f d a
 |quiet m ns txt m' e h b hn i g a=>exact b.ok f d a
 |anew m ns txt t h r a=>exact a
theorem jO.okA(h:jO c ep m ns txt):∀x∈vA m.L m.Gl,okX x:=by
 induction h with
 |start m ns txt p r j g o=>exact j
 |laid m ns txt m' e xs h f k d b n i l a=>rw[d,b];exact XZ xs _ _ a k
 |quiet m ns txt m' e h f hn d b a=>rw[d,b];exact a
 |anew m ns txt s h q a=>exact a
theorem jO.okN(h:jO c ep m ns txt):∀x∈vA m.L m.Gl,okN x:=by
 induction h with
 |start m ns txt n q o e l=>exact e
 |laid m ns txt m' g xs h i r d b f j k a=>rw[d,b];exact zed xs _ _ a f
 |quiet m ns txt m' g h i hn d b a=>rw[d,b];exact a
 |anew m ns txt s h p a=>exact a
end
structure YD(w:A)(i:Ids)(c:Cf)(ep:Int)(m:MS)(q:JM)(txt:ByteArray)(ns:List Nm):Prop where
 at_:zQ w i c ep m q
 up:q.dn=false
 dsk:q.S=jS ep.toNat txt
 e1:1<=ep/\ep<=1000000000
 st:0<=q.st/\q.st<=100000000000
 tx:(txt.size:Int)<=2*q.st+4096
 hist:jO c ep m ns txt
def zy(w:A)(i:Ids)(c:Cf)(ep:Int)(m:MS):Prop:=∃q txt ns,YD w i c ep m q txt ns
section
variable {w w':A} {i:Ids} {c:Cf} {ep:Int} {m:MS} {q:JM} {txt:ByteArray} {ns:List Nm}
theorem zy.own(h:zy w i c ep m):xG false w i c ep m:=by
 obtain⟨q,txt,ns,h⟩:=h
 have:=h.at_.own
 rw[h.up]at this;exact this
theorem zy.head(h:zy w i c ep m):w.1[i.x]?=J (.cells #[I c.s,I c.le,I c.la,I c.wi,I c.ke,I c.qu,i.tv,I ep,I m.now,(O i.s),(O i.b),(O i.j),.bool false] 94 (0,0)):=h.own.head
theorem zy.set(h:zy w i c ep m):xE w i.s c i.tv i.lb i.gb m.Gl m.L:=h.own.set
theorem zy.board(h:zy w i c ep m):zC w i.b c i.tv ep m.num i.tb i.qb m.TL m.QL:=h.own.board
theorem zy.lt(h:zy w i c ep m):i.x<w.1.size:=zd h.head
theorem zy.dlt(h:zy w i c ep m):i.d<w.1.size:=by obtain⟨q,txt,ns,h⟩:=h;exact h.at_.dlt
theorem zy.tab(h:zy w i c ep m):Qe w:=by obtain⟨q,txt,ns,h⟩:=h;exact h.at_.tab
theorem zy.ts(h:zy w i c ep m):∃a cap,i.tv=.slice a c.n cap/\TS w a c.n c.F c.W c.K:=h.own.ts
theorem zy.cells(h:zy w i c ep m):w.cell? (U i.x 0)=J (I c.s)/\w.cell? (U i.x 1)=J (I c.le)/\w.cell? (U i.x 2)=J (I c.la)/\w.cell? (U i.x 3)=J (I c.wi)/\w.cell? (U i.x 4)=J (I c.ke)/\w.cell? (U i.x 5)=J (I c.qu)/\w.cell? (U i.x 6)=J i.tv/\w.cell? (U i.x 7)=J (I ep)/\w.cell? (U i.x 8)=J (I m.now)/\w.cell? (U i.x 9)=J (O i.s)/\w.cell? (U i.x 10)=J (O i.b):=h.own.cells
theorem zy.kept{f:Nat->Prop}(h:zy w i c ep m)(a:zh f w w')(hn:∀k,zG w i k->¬f k)(b:¬f Y4):zy w' i c ep m:=by
 obtain⟨q,txt,ns,h⟩:=h
 exact⟨q,txt,ns,h.at_.kept a hn b,h.up,h.dsk,h.e1,h.st,h.tx,h.hist⟩
theorem zy.later(h:zy w i c ep m)(b:Q w.1.size w w'):zy w' i c ep m:=h.kept (f:=fun _=>False) (zh.of_below b) (fun _ _ a=>a) (fun a=>a)
theorem zy.foot_lt(h:zy w i c ep m):∀k,zG w i k->k<w.1.size:=by obtain⟨q,txt,ns,h⟩:=h;exact h.at_.foot_lt
theorem zy.tn(h:zy w i c ep m):∀k,zG w i k->k≠Y4:=by obtain⟨q,txt,ns,h⟩:=h;exact h.at_.tn
theorem zy.below(h:zy w i c ep m)(a:Q w.1.size w w'):Kx i w w':=Kx.below a h.dlt
def znV(t:TypeId):Bool:=t==94||t==155||t==80||t==171||t==216||t==111||t==113
theorem zQ.tagQ(h:zQ w i c ep m q){k:Nat}{cs:Array Value}{t:TypeId}{v:Nat×Nat}(o:w.1[k]?=J (.cells cs t v))(r:znV t=false):¬zG w i k:=fun x=>by
 unfold znV at r
 simp only[Bool.or_eq_false_iff,beq_eq_false_iff_ne]at r
 obtain⟨⟨⟨⟨⟨⟨z,t2⟩,t3⟩,t4⟩,t5⟩,B⟩,C⟩:=r
 obtain⟨fs,s⟩:=h.jrn
 have p:¬ZM i k:=fun e=>by
  rcases h.otag k e with⟨l,y,n,f,g⟩|⟨F,D,u⟩
  ·have b:=jM o f
   rcases g with a|a|a|a
   ·exact z (b.trans a)
   ·exact t2 (b.trans a)
   ·exact t3 (b.trans a)
   ·exact t4 (b.trans a)
  ·rw[o]at u;cases u
 have hn:¬Zb i.j i.d fs k:=fun e=>by
  obtain⟨l,y,n,f,g⟩:=s.tag k e
  have b:=jM o f
  rcases g with a|a|a
  ·exact t5 (b.trans a)
  ·exact B (b.trans a)
  ·exact C (b.trans a)
 rcases x with(e|e|e|e|e)|e
 ·exact p (.inl e)
 ·exact p (.inr (.inl e))
 ·exact p (.inr (.inr e))
 ·exact hn (.inl e)
 ·exact hn (.inr (.inl e))
 ·exact hn (.inr (.inr (s.fsB▸e)))
theorem zy.tag(h:zy w i c ep m){k:Nat}{cs:Array Value}{t:TypeId}{a:Nat×Nat}(b:w.1[k]?=J (.cells cs t a))(d:znV t=false):¬zG w i k:=by
 obtain⟨q,txt,ns,h⟩:=h
 exact h.at_.tagQ b d
theorem YD.dok(h:YD w i c ep m q txt ns):DOk q.S 400000000000:=by
 rw[h.dsk]
 have a:=h.tx;have b:=h.st;have d:=h.e1
 exact zdu (by omega) (by omega) (by omega)
theorem YD.lens(h:YD w i c ep m q txt ns)(a:c.ok):m.L.length<=400/\m.Gl.length<=2000020:=⟨(h.hist.sok a).ok.seg.len400 a,(h.hist.sok a).gl a⟩
theorem YD.lay(h:YD w i c ep m q txt ns)(a:ByteArray):jU q.S a=true:=by rw[h.dsk];exact(zmH _ _ _).2
theorem YD.after(h:YD w i c ep m q txt ns)(l:c.ok){m':MS}{a:List Nm}{now:Int}{xs:List SX}(C:yL c ep m ns m' a)(o:∀x∈xs,okX x)(r:∀x∈xs,okN x)(n:(xs.map (·.1)).Nodup)(p:xs.length<=1000)(hn:m'.now=now)(t:m'.L=(m.took now xs).L)(s:m'.Gl=(m.took now xs).Gl){z:JM}(B:Vj (m.took now xs) q z now xs)(v:zQ w' i c ep m' z):zy w' i c ep m':=by
 subst hn
 have e:jO c ep m' a (txt++(xS m'.now xs++nl)):=.laid m ns txt m' a xs h.hist C o t s r n p
 have k:=e.sok l
 have g:=(zmH ep.toNat txt (xS m'.now xs)).1
 have D:=h.st
 rcases B with⟨f,rfl⟩|⟨f,b,j,rfl⟩
 ·refine⟨_,_,_,v,h.up,?_,h.e1,h.st,?_,e⟩
  ·show zbX q.S (xS m'.now xs)=_;rw[h.dsk,g]
  ·show((txt++(xS m'.now xs++nl)).size:Int)<=2*q.st+4096
   unfold Jt at f
   rw[h.dsk,g,ziY]at f
   have:=of_decide_eq_false f
   omega
 ·rw[<-t,<-s]at j
  obtain⟨G,_,H⟩:=zjg ep.toNat (txt++(xS m'.now xs++nl)) (xS m'.now b)
  have y:=k.ok.now
  have u:=jG (now:=m'.now) (xs:=b) (by unfold xg;omega) (fun x o=>e.okA x (j.mem_iff.1 o))
  have I:=k.ok.seg.len400 l
  have K:=k.gl l
  have M:b.length=m'.L.length+m'.Gl.length:=by rw[j.length_eq];unfold vA;rw[List.length_append,List.length_map]
  have F:(xS m'.now b).size<=1000000000:=by rw[Zh];omega
  have d:(zqe (ZL q (xS m'.now xs)) (xS m'.now b)).st=(xS m'.now b).size+1:=by
   show JO (zbX q.S (xS m'.now xs)) (xS m'.now b) q.st=_
   unfold JO
   rw[h.dsk,g,H];rfl
  refine⟨_,_,_,v,h.up,?_,h.e1,?_,?_,jO.anew m' a _ b e j⟩
  ·show zei (zbX q.S (xS m'.now xs)) (xS m'.now b)=_;rw[h.dsk,g,G]
  ·rw[d];omega
  ·rw[d,Qw];omega
theorem YD.quiet(h:YD w i c ep m q txt ns){m':MS}{a:List Nm}(k:yL c ep m ns m' a)(hn:m'.now=m.now)(j:m'.L=m.L)(g:m'.Gl=m.Gl)(n:xG false w' i c ep m')(l:zh (ZM i) w w'):zy w' i c ep m'/\Kx i w w':=by
 have b:xG q.dn w' i c ep m':=by rw[h.up];exact n
 obtain⟨d,f⟩:=h.at_.put b l (fun _ e=>e)
 exact⟨⟨q,txt,a,d,h.up,h.dsk,h.e1,h.st,h.tx,.quiet m ns txt m' a h.hist k hn j g⟩,f⟩
end
theorem ZV(kind:Int)(s:Sg):∀(l:List Tk) (t:Tk),(∀x∈l,¬(x.kind=kind/\x.s=s))->l.foldl (kE kind s) t=t
 |[],t,_=>rfl
 |x::l,t,h=>by
  rw[List.foldl_cons]
  have e:kE kind s t x=t:=by unfold kE;rw[if_neg (h x (by simp))]
  rw[e]
  exact ZV kind s l t (fun y a=>h y (by simp[a]))
theorem XL(kind:Int)(s:Sg)(x:Tk)(c:x.kind=kind/\x.s=s):∀(l:List Tk) (t:Tk),(∀y∈l,y.kind=kind/\y.s=s->y=x)->(t=x\/x∈l)->l.foldl (kE kind s) t=x
 |[],t,_,h=>by
  rcases h with h|h
  ·exact h
  ·cases h
 |y::l,t,b,h=>by
  rw[List.foldl_cons]
  refine XL kind s x c l _ (fun z d=>b z (by simp[d])) ?_
  by_cases a:y.kind=kind/\y.s=s
  ·have e:kE kind s t y=y:=by unfold kE;rw[if_pos a]
   exact .inl (e.trans (b y (by simp) a))
  ·have e:kE kind s t y=t:=by unfold kE;rw[if_neg a]
   rw[e]
   rcases h with h|h
   ·exact .inl h
   ·rcases List.mem_cons.1 h with h|h
    ·exact absurd (h▸c) a
    ·exact .inr h
section
variable {c:Cf} {ep:Int} {m:MS} {r:RM}
theorem zdp(f:MOk c ep m)(j:xB m.TL m.QL r.td){kind:Int}{s:Sg}{x:Tsk}(k:zD m.TL ⟨kind,s⟩=J x):yy r kind s=yU m.QL x:=by
 have h:=zB k
 have g:(⟨kind,s⟩:Jk)=x.key:=(f.td _ h).key
 unfold Tsk.key at g
 injection g with b d
 unfold yy
 refine XL kind s (yU m.QL x) ⟨b.symm,d.symm⟩ _ _ (fun y n e=>?_) (.inr ((j.mem _).2 ⟨_,h,rfl⟩))
 obtain⟨q,i,rfl⟩:=(j.mem y).1 n
 have l:q.1=⟨kind,s⟩:=by
  rw[(f.td q i).key]
  unfold Tsk.key
  rw[show q.2.kd=kind from e.1,show q.2.s=s from e.2]
 have a:zD m.TL q.1=J q.2:=xp f.nt i
 rw[l,k]at a
 injection a with a
 rw[a]
theorem KG(d:MOk c ep m)(n:xB m.TL m.QL r.td)(hn:r.now=m.now){b:Bool}{s:Sg}(i:zD m.TL ⟨(⟨b,s,m.now,0,0⟩:Tsk).kd,s⟩=E):yy r (⟨b,s,m.now,0,0⟩:Tsk).kd s=yU m.QL ⟨b,s,m.now,0,0⟩:=by
 have f:∀q∈m.QL,q.2.job≠(⟨b,s,m.now,0,0⟩:Tsk).key:=fun q a e=>by
  obtain⟨y,g,-⟩:=(d.leas q a).job
  rw[e]at g
  have:zD m.TL (⟨b,s,m.now,0,0⟩:Tsk).key=E:=i
  rw[this]at g;cases g
 unfold yy
 rw[ZV]
 ·unfold zpu yU
  rw[Zc f,hn]
 ·intro k l e
  obtain⟨q,a,rfl⟩:=(n.mem k).1 l
  have j:q.1=⟨(⟨b,s,m.now,0,0⟩:Tsk).kd,s⟩:=by
   rw[(d.td q a).key]
   unfold Tsk.key
   rw[show q.2.kd=_ from e.1,show q.2.s=s from e.2]
  have h:zD m.TL q.1=J q.2:=xp d.nt a
  rw[j,i]at h
  cases h
end
section
variable {c:Cf} {ep:Int} {m:MS} {r:RM}
theorem Y5(d:MOk c ep m)(i:xB m.TL m.QL r.td)(hn:r.now=m.now){a:List (Jk×Tsk)}(k:xA c m a){kind:Int}{s:Sg}{x:Tsk}(l:zD a ⟨kind,s⟩=J x):yy r kind s=yU m.QL x:=by
 obtain⟨n,-,-,j⟩:=k.get d.nt
 rcases(j _ x).1 l with h|⟨h,o,-,⟨-,e,rfl⟩|⟨-,e,rfl⟩⟩
 ·exact zdp d i h
 ·injection e with f g
  subst f g
  exact KG (b:=true) d i hn h
 ·injection e with f g
  subst f g
  exact KG (b:=false) d i hn h
theorem zdk(x:c.ok)(y:c.fits)(o:MOk c ep m)(w:xB m.TL m.QL r.td)(hn:r.now=m.now){a:List (Jk×Tsk)}(q:xA c m a)(v:∀kind s,(kind=1\/kind=2)->s∈xb r.c r.nu->(vk r kind s (xb r.c r.nu)=true↔(⟨kind,s⟩:Jk)∈zj a))(i:∀k∈zj a,k.s∈xb r.c r.nu):xB a m.QL r.settled.td:=by
 have h:=(o.post x y q).1
 have u:∀p∈a,p.1=p.2.key:=fun p b=>(h.td p b).key
 have g:(zj a).Nodup:=h.nt
 refine xB.of_settled u g (fun p b=>?_) (fun k n=>?_)
 ·have l:zD a p.1=J p.2:=xp g b
  have f:p.1.kd=1\/p.1.kd=2:=by
   rw[u p b]
   show p.2.kd=1\/p.2.kd=2
   unfold Tsk.kd
   split<;>simp
  have d:p.1∈zj a:=List.mem_map.2 ⟨p,b,rfl⟩
  have j:=i _ d
  rw[(Zk r).2]
  exact⟨p.1.s,j,p.1.kd,f,(v _ _ f j).2 d,(Y5 o w hn q l).symm⟩
 ·obtain⟨s,j,kind,f,t,rfl⟩:=((Zk r).2 k).1 n
  have d:=(v kind s f j).1 t
  obtain⟨p,b,e⟩:=List.mem_map.1 d
  have l:zD a ⟨kind,s⟩=J p.2:=by rw[<-e];exact xp g b
  exact⟨p,b,Y5 o w hn q l⟩
end
end Go.Proofs.YtndhpgciopcncaaGreatDoor
