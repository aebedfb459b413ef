import Derived.Test.YtndhpgciopcncaaGreatDoorHOrd6
import Derived.Test.YtndhpgciopcncaaGreatDoorHCop0
import Derived.Test.YtndhpgciopcncaaGreatDoorHMlz3
import Derived.Test.YtndhpgciopcncaaGreatDoorHTak1
open Option renaming some → J
open Option renaming none → E
open Go.RowKit renaming Below → Q
open Go.RowKit.Below renaming refl → Y
set_option linter.unusedVariables false
set_option maxRecDepth 20000
set_option maxHeartbeats 8000000
open Go.Proofs.Tryz
namespace Go.Proofs.YtndhpgciopcncaaGreatDoor
open Go.RowKit Go.Maps Go.Shelf
variable {cs:Array Value} {c:Cf} {e:Ending} {i:Ids} {ep kind now:Int} {q:JM} {p:Jk×Tsk} {TL TL':List (Jk×Tsk)} {QL QL':List (Tok×Lse)} {ns':List Nm} {xs:List SX} {l out:List Tk} {g:Lse} {m m':MS} {j k:Nat} {fr:Nat×Nat} {r:RM} {s:Sg} {x x':Tsk} {W w w':World}
def kh(QL:List (Tok×Lse))(x:Tsk):Tk:=⟨x.kd,x.s,x.se,x.ti,x.rest,(jD QL x).1.ep,(jD QL x).1.num,(jD QL x).2.1,(jD QL x).2.2⟩
theorem zql(QL:List (Tok×Lse))(x:Tsk):TkT (kh QL x) x:=⟨rfl,rfl,rfl⟩
def zdQ(k:Tk):Tsk:=⟨decide (k.kind=1),k.s,k.se,k.ti,k.rest⟩
theorem kG(QL:List (Tok×Lse))(x:Tsk):zdQ (kh QL x)=x:=by
 obtain⟨rl,s,a,b,d⟩:=x;unfold zdQ kh;cases rl<;>rfl
theorem zoP(g:∀q∈QL,0<=q.2.slot)(x:Tsk):decide ((kh QL x).slot<0)=!kr QL x.key:=by
 show decide ((jD QL x).2.1<0)=_;unfold jD kr;cases c:QL.find? (fun p=>decide (p.2.job=x.key))with
 |none=>
  have b:QL.any (fun p=>decide ((⟨p.2.kd,p.2.s⟩:Jk)=x.key))=false:=by
   rw[List.any_eq_false];intro q a e;have d:q.2.job=x.key:=of_decide_eq_true e;exact List.find?_eq_none.1 c q a (decide_eq_true d)
  rw[b];rfl
 |some q=>
  have a:=List.mem_of_find?_eq_some c
  have f:=List.find?_some c
  have b:QL.any (fun p=>decide ((⟨p.2.kd,p.2.s⟩:Jk)=x.key))=true:=List.any_eq_true.2 ⟨q,a,decide_eq_true (show(⟨q.2.kd,q.2.s⟩:Jk)=x.key from of_decide_eq_true f)⟩
  rw[b]
  have:=g q a
  simpa using this
theorem JI(a:∀q∈QL,0<=q.2.slot)(x:Tsk):r.freeT (kh QL x)=kn QL r.now x:=by
 unfold RM.freeT kn;rw[zoP a,Bool.and_comm];rfl
def xG(TL:List (Jk×Tsk))(QL:List (Tok×Lse))(l:List Tk):Prop:=∃ts:List Tsk,ts.Perm (TL.map (·.2))/\ts.Pairwise (fun a b=>¬qE b a<0)/\l=ts.map (kh QL)
theorem xG.mem(h:xG TL QL l)(k:Tk):k∈l↔∃p∈TL,k=kh QL p.2:=by
 obtain⟨ts,b,-,rfl⟩:=h;rw[List.mem_map];constructor
 ·rintro⟨x,c,rfl⟩;obtain⟨p,a,rfl⟩:=List.mem_map.1 (b.mem_iff.1 c);exact⟨p,a,rfl⟩
 ·rintro⟨p,a,rfl⟩;exact⟨p.2,b.mem_iff.2 (List.mem_map.2 ⟨p,a,rfl⟩),rfl⟩
section
variable {c:Cf} {ep:Int} {m:MS} {r:RM}
theorem pick_idle(e:xG m.TL m.QL r.td)(hn:r.now=m.now)(d:∀q∈m.QL,0<=q.2.slot)(h:∀p∈m.TL,kn m.QL m.now p.2=false):r.bestI r.td.length=E:=by
 cases b:r.bestI r.td.length with
 |none=>rfl
 |some j=>
  obtain⟨-,x,f,a⟩:=Yv r _ b;obtain⟨p,c,rfl⟩:=(e.mem x).1 (List.mem_of_getElem? f);rw[JI d,hn,h p c]at a;cases a
theorem ziW(d:MOk c ep m)(G:r.c=c)(t:xG m.TL m.QL r.td)(hn:r.now=m.now)(u:r.tight=kW (zV m.L) c.qu)(z:∀q∈m.QL,0<=q.2.slot)(n:p∈m.TL)(H:kn m.QL m.now p.2=true)(K:VA c m.now (kW (zV m.L) c.qu) m.QL m.TL p.2):
  ∃j,r.bestI r.td.length=J j/\r.td[j]?=J (kh m.QL p.2):=by
 have e:=(t.mem (kh m.QL p.2)).2 ⟨p,n,rfl⟩;obtain⟨i,h,l⟩:=List.getElem_of_mem e;have b:r.td[i]?=J (kh m.QL p.2):=by rw[List.getElem?_eq_getElem h,l]
 have a:r.freeT (kh m.QL p.2)=true:=by rw[JI z,hn];exact H
 cases g:r.bestI r.td.length with
 |none=>
  have:=Qr _ g i _ h b;rw[this]at a;cases a
 |some j=>
  obtain⟨-,x,v,w⟩:=Yv r _ g;obtain⟨q,o,rfl⟩:=(t.mem x).1 (List.mem_of_getElem? v);refine⟨j,rfl,?_⟩;have y:=jO zdQ (fun k I=>by
   obtain⟨q',s,rfl⟩:=(t.mem k).1 I;rw[kG];exact⟨zql _ _,by rw[hn];exact(d.td q' s).se.2⟩) r.td.length j _ g v i _ h b a
  rw[kG,kG,G,hn,u]at y;have F:=K q o (by rw[<-hn,<-JI z];exact w);obtain⟨A,B⟩:=zoC _ _ _ _ _ y F;have D:p.1=q.1:=by
   rw[(d.td p n).key,(d.td q o).key];unfold Tsk.key;rw[A,B]
  have C:zE m.TL p.1=J p.2:=xt d.nt n;have f:zE m.TL q.1=J q.2:=xt d.nt o;rw[<-D,C]at f;injection f with f;rw[v,f]
end
theorem zmW{dn:Bool}(h:xK dn w i c ep m)(n:(m.QL.map (fun q=>q.2.job)).Nodup)(f:m.TL.length<=1000000):
  Calls prog 19 #[(O i.x)] w fun e w'=>∃ts a cap,jw m.TL ts/\e=.returned (.slice a ts.length cap)/\w'.ownsRow w.1.size 51 11 (.slice a ts.length cap) ts.length (ts.flatMap (X7 m.QL))/\Q w.1.size w w':=by
 have o:=h.lt;obtain⟨-,-,-,-,-,-,-,-,-,-,k⟩:=h.cells;have g:=ze (zls h.board n f);clear h;go_enter func19,ntmps19;go_wp2_with fail;refine(ud g).mono ?_;rintro e w1 ⟨ts,a,cap,l,rfl,b,d⟩;have HR:=ze b;have j:=ze d;clear b d g;go_wp2_with fail;go_ret;exact⟨ts,a,cap,l,rfl,ud HR,ud j⟩
def YO(m':MS)(q q':JM)(now:Int)(xs:List SX):Prop:=
 (Vn (Qa q.S (xm now xs)) q.st=false/\q'=jT q (xm now xs))\/(Vn (Qa q.S (xm now xs)) q.st=true/\∃ys:List SX,ys.Perm (yJ m'.L m'.Gl)/\q'=zpY (jT q (xm now xs)) (xm now ys))
theorem jL(h:Zi w' i c ep m q now xs e)(f:yR q.S (xm now xs)=false):e=.returned (I 13)/\zO w' i c ep m {jT q (xm now xs)with dn:=true}:=by
 rcases h with⟨_,b,d⟩|⟨a,_⟩
 ·exact⟨b,d⟩
 ·rw[f]at a;cases a
theorem kA(h:Zi w' i c ep m q now xs e)(j:yR q.S (xm now xs)=true):e=.returned (I 0)/\∃q',YO (m.took now xs) q q' now xs/\zO w' i c ep (m.took now xs) q':=by
 rcases h with⟨d,_⟩|⟨_,f,⟨a,b⟩|⟨a,ys,b,g⟩⟩
 ·rw[j]at d;cases d
 ·exact⟨f,_,.inl ⟨a,rfl⟩,b⟩
 ·exact⟨f,_,.inr ⟨a,ys,b,rfl⟩,g⟩
def zqy(w':World)(i:Ids)(c:Cf)(ep:Int)(m:MS)(q:JM)(n:Int)(e:Ending):Prop:=
 (yR q.S (xm (m.now+n) [])=false/\e=.returned (I 13)/\zO w' i c ep m {jT q (xm (m.now+n) [])with dn:=true})
 \/(yR q.S (xm (m.now+n) [])=true/\e=.returned (I 0)/\∃q' b a TL',YO (m.took (m.now+n) []) q q' (m.now+n) []/\zO w' i c ep {m with now:=m.now+n,TL:=TL',QL:=a} q'/\YQ (m.now+n) m.TL m.QL b a/\(∀p∈a,m.now+n<p.2.til)/\xB c {m with now:=m.now+n,TL:=b,QL:=a} TL')
theorem zmb(w:World)(base:Nat):ju w base (.slice E 0 0) []:=by
 unfold ju;exact World.ownsRow_nil _ _ _ _
theorem ziG(h:zO w i c ep m q)(hc:c.ok)(n:Int)(hn:1<=n/\n<=1000)(X:0<=m.now/\m.now+n<=100000)(hI:zmF 1000000 100000 m.TL m.QL)(hL:∀p∈m.L,inR c p.1)(V:m.L.length<=2000)(a0:∀TL' QL',YQ (m.now+n) m.TL m.QL TL' QL'->TL'.length<=50000)(s:∀x∈yJ m.L m.Gl,okX x)(ad:m.Gl.length<=49000000)(N:Nat)(hN:N<=900000000000)(hd:DOk q.S N)(ae:0<=q.st/\q.st<=1099511627776):
  Calls prog 26 #[(O i.x),I n] w fun e w'=>zqy w' i c ep m q n e/\Kx i w w':=by
 obtain⟨-,-,-,-,-,-,-,-,c8,-,-⟩:=h.own.cells;have an:=h.lt;obtain⟨aj,ak⟩:=hn;obtain⟨al,a1⟩:=X;have ag:decide (n<1)=false:=by simp;omega
 have ah:decide (1000<n)=false:=by simp;omega
 have ai:decide (100000<m.now+n)=false:=by simp;omega
 have o:=fun W (t:Q w.1.size w W)=>Xz (h.later t) (m.now+n) (by unfold xz;omega) [] (by simp) s (by simp) (by omega) ad N hN hd ae 0 (.slice E 0 0) (zmb _ _);have af:=ze h.dlt;clear s hd;cases d:yR q.S (xm (m.now+n) [])
 ·have f:=fun W (t:Q w.1.size w W)=>ze ((o W t).mono (fun e T u=>(⟨(jL u.1 d).1,(jL u.1 d).2,u.2⟩:e=.returned (I 13)/\zO T i c ep m {jT q (xm (m.now+n) [])with dn:=true}/\Kx i W T)));have l:=f w (Y _ _);clear h o f hI hL a0;go_enter func26,ntmps26;go_wp2_with fail;refine(ud l).mono ?_;rintro e T ⟨rfl,g,F⟩;have HM:=ze g;have HK:=ze F;clear g F;go_wp2_with fail;go_ret;exact⟨.inl ⟨d,rfl,ud HM⟩,ud HK⟩
 ·have f:=fun W (t:Q w.1.size w W)=>ze ((o W t).mono (fun e T u=>(⟨(kA u.1 d).1,(kA u.1 d).2,u.2⟩:e=.returned (I 0)/\(∃q',YO (m.took (m.now+n) []) q q' (m.now+n) []/\zO T i c ep (m.took (m.now+n) []) q')/\Kx i W T)));have l:=f w (Y _ _);clear h o f;go_enter func26,ntmps26;go_wp2_with fail;refine(ud l).mono ?_;rintro e T ⟨rfl,⟨q',hA,K⟩,F⟩;have g:zO T i c ep {m with now:=m.now+n} q':=K;obtain⟨-,-,-,-,-,-,-,-,d8,-,B⟩:=g.own.cells;dsimp only at d8;have a2:=g.lt;have HE:=fun W (t:Q T.1.size T W)=>ze (zfx ((g.later t).board) (m.now+n) ⟨by omega,a1⟩ hI);have y:=HE T (Y _ _);have j:=HE T.drew (Y _ _).drew;have v:∀k,(k=i.tb\/k=i.qb)->¬i.x=k:=fun k e e'=>by
   rcases e with e|e
   ·exact g.x_board k (.inr (.inl e)) e'.symm
   ·exact g.x_board k (.inr (.inr e)) e'.symm
  have A:Hid (¬(i.x=i.tb\/i.x=i.qb)):=fun e=>by
   rcases e with e|e
   ·exact v i.tb (.inl rfl) e
   ·exact v i.qb (.inr rfl) e
  have HM:=ze g;have HK:=ze F;have HA:=ze hA;clear K g F hA HE v l;go_wp2_with fail;go_region_held3 (fun w'=>w'.cell? (U i.x 8)=J (I (m.now+n))/\w'.cell? (U i.x 10)=J (O i.b)) (go_keep) (first
   |(go_at_call 59;(first|(with_reducible refine(ud y).mono ?_)|(with_reducible refine(ud j).mono ?_));rintro e V1 ⟨rfl,ab,aa,C,a,D,Z⟩;have hK1:zi (fun k=>k=i.tb\/k=i.qb) T V1:=⟨a.os,a.tape,a.output,a.size,a.block⟩;clear a;have g8:=(zL (i:=8) hK1 (ud A) a2).trans d8;have ac:=(zL (i:=10) hK1 (ud A) a2).trans B;have a3:=ze C;have a4:=ze hK1;have j:=ze D;have a9:=ze Z;clear C hK1 D Z y))
  all_goals(
   have R:zi (Zc i.b i.tb i.qb) T V1:=(ud a4).mono (fun k _ e=> .inr e)
   obtain⟨r,G⟩:=(ud HM).putBoard (ud a3) R
   have a8:=ze (zaf r.own hc hL V ⟨by show 0<=m.now+n;omega,a1⟩ (a0 _ _ (ud j)))
   have a6:=ze r
   have a5:=ze ((ud HK).trans G)
   have am:=r.lt
   clear R r G d8 B g8 ac
   go_wp2_with(first|(go_at_call 55;refine(ud a8).mono ?_;rintro e V3 ⟨rfl,TL',M,H,P⟩;have z:=ze ((ud a6).put M H (fun k e=> .inr (.inr (.inr (.inl e)))));have a7:=ze P;clear M H P))
   go_ret
   exact⟨.inr ⟨d,rfl,q',ab,aa,TL',ud HA,(ud z).1,ud j,ud a9,ud a7⟩,(ud a5).trans (ud z).2⟩)
theorem JH{q:Tok×Lse}(h:QL.find? (fun p=>decide (p.2.job=x.key))=J q):q.2.job=x.key:=by
 have:=List.find?_some h;exact of_decide_eq_true this
theorem Q6(f:(QL.map (fun q=>q.2.job)).Nodup){q:Tok×Lse}(b:q∈QL)(e:q.2.job=x.key):jD QL x=(q.1,q.2.slot,q.2.til):=by
 unfold jD;cases a:QL.find? (fun p=>decide (p.2.job=x.key))with
 |none=>exact absurd (decide_eq_true e) (List.find?_eq_none.1 a q b)
 |some q'=>
  have c:=List.mem_of_find?_eq_some a
  have d:q'.2.job=x.key:=JH a
  have:q'=q:=yL f q' c q b (d.trans e.symm)
  subst this
  rfl
theorem Zu(h:∀q∈QL,q.2.job≠x.key):jD QL x=(⟨0,0⟩,-1,0):=by
 unfold jD;cases a:QL.find? (fun p=>decide (p.2.job=x.key))with
 |none=>rfl
 |some q=>exact absurd (JH a) (h q (List.mem_of_find?_eq_some a))
theorem ZO(QL:List (Tok×Lse))(x:Tsk):(∃q∈QL,q.2.job=x.key/\jD QL x=(q.1,q.2.slot,q.2.til))\/((∀q∈QL,q.2.job≠x.key)/\jD QL x=(⟨0,0⟩,-1,0)):=by
 unfold jD;cases a:QL.find? (fun p=>decide (p.2.job=x.key))with
 |none=>exact .inr ⟨fun q b e=>List.find?_eq_none.1 a q b (decide_eq_true e),rfl⟩
 |some q=>exact .inl ⟨q,List.mem_of_find?_eq_some a,JH a,rfl⟩
section
variable {c:Cf} {ep:Int} {m:MS} {r:RM}
theorem MOk.leased(a:MOk c ep m){q:Tok×Lse}(e:q∈m.QL):∃p∈m.TL,p.2.key=q.2.job/\jD m.QL p.2=(q.1,q.2.slot,q.2.til):=by
 obtain⟨x,f,-⟩:=(a.leas q e).job;have d:=zA f;have b:=(a.td _ d).key;exact⟨_,d,b.symm,Q6 a.jobs e b⟩
theorem YV(i:MOk c ep m)(g:xG m.TL m.QL r.td)(slot:Int)(j:0<=slot):r.td.any (fun x=>x.slot==slot)=m.QL.any (fun p=>p.2.slot==slot):=by
 rw[Bool.eq_iff_iff,List.any_eq_true,List.any_eq_true];constructor
 ·rintro⟨k,h,d⟩;obtain⟨p,f,rfl⟩:=(g.mem k).1 h;have a:(jD m.QL p.2).2.1=slot:=by simpa[kh]using d
  rcases ZO m.QL p.2 with⟨q,b,-,e⟩|⟨-,e⟩
  ·rw[e]at a;exact⟨q,b,by simpa using a⟩
  ·rw[e]at a;simp only at a;omega
 ·rintro⟨q,b,d⟩;obtain⟨p,f,-,e⟩:=i.leased b;exact⟨kh m.QL p.2,(g.mem _).2 ⟨p,f,rfl⟩,by simpa[kh,e]using d⟩
theorem JK(j:∀q∈m.QL,0<=q.2.slot)(i:(m.QL.map (fun q=>q.2.job)).Nodup)(x:Tsk)(e n:Int):(kh m.QL x).holds e n=true↔∃q∈m.QL,q.1=⟨e,n⟩/\q.2.job=x.key:=by
 unfold Tk.holds kh;simp only[Bool.and_eq_true,decide_eq_true_eq];rcases ZO m.QL x with⟨q,g,f,d⟩|⟨hn,d⟩
 ·rw[d];simp only;constructor
  ·rintro⟨-,c,b⟩;refine⟨q,g,?_,f⟩;obtain⟨⟨_,_⟩,_⟩:=q;simp only at c b ⊢;rw[c,b]
  ·rintro⟨q',a,c,b⟩;have:q'=q:=yL i q' a q g (b.trans f.symm);subst this;exact⟨j q' a,by rw[c],by rw[c]⟩
 ·rw[d];simp only;constructor
  ·rintro⟨h,-⟩;omega
  ·rintro⟨q',a,-,b⟩;exact absurd b (hn q' a)
theorem VL(a:MOk c ep m)(j:xG m.TL m.QL r.td)(i:∀q∈m.QL,0<=q.2.slot)(e n:Int)(h:zE m.QL ⟨e,n⟩=E):r.td.findIdx? (Tk.holds e n)=E:=by
 rw[List.findIdx?_eq_none_iff];intro k f;obtain⟨p,l,rfl⟩:=(j.mem k).1 f;cases d:(kh m.QL p.2).holds e n with
 |false=>rfl
 |true=>
  obtain⟨q,g,b,-⟩:=(JK i a.jobs p.2 e n).1 d;have:zE m.QL q.1=J q.2:=xt a.nq g;rw[b,h]at this;cases this
theorem QA(a:MOk c ep m)(v:xG m.TL m.QL r.td)(u:∀q∈m.QL,0<=q.2.slot)(e n:Int)(h:zE m.QL ⟨e,n⟩=J g)(w:zE m.TL g.job=J x):∃j,r.td.findIdx? (Tk.holds e n)=J j/\r.td[j]?=J (kh m.QL x):=by
 have D:=zA h;have t:=zA w;have C:=(a.td _ t).key;have B:(kh m.QL x).holds e n=true:=(JK u a.jobs x e n).2 ⟨_,D,rfl,C⟩;cases p:r.td.findIdx? (Tk.holds e n)with
 |none=>
  have:=List.findIdx?_eq_none_iff.1 p _ ((v.mem _).2 ⟨_,t,rfl⟩)
  rw[B]at this;cases this
 |some j=>
  obtain⟨s,o,-⟩:=List.findIdx?_eq_some_iff_getElem.1 p
  refine⟨j,rfl,?_⟩
  obtain⟨d,b,l⟩:=(v.mem _).1 (List.getElem_mem s)
  rw[l]at o
  obtain⟨q',k,y,z⟩:=(JK u a.jobs d.2 e n).1 o
  have f:zE m.QL q'.1=J q'.2:=xt a.nq k
  rw[y,h]at f
  injection f with f
  have A:d.1=g.job:=by rw[(a.td d b).key,<-z,f]
  have i:zE m.TL d.1=J d.2:=xt a.nt b
  rw[A,w]at i
  injection i with i
  rw[List.getElem?_eq_getElem s,l,i]
end
theorem Qx(d:(QL.map (fun q=>q.2.job)).Nodup)(c:(QL'.map (fun q=>q.2.job)).Nodup)(h:∀q,q.2.job=x.key->(q∈QL↔q∈QL')):jD QL x=jD QL' x:=by
 rcases ZO QL x with⟨q,b,a,e⟩|⟨hn,e⟩
 ·rw[e,Q6 c ((h q a).1 b) a]
 ·rw[e,Zu (fun q b a=>hn q ((h q a).2 b) a)]
theorem jM(h:jD QL x=jD QL' x):kh QL x=kh QL' x:=by
 unfold kh;rw[h]
theorem zmv{y:Tsk}(h:kh QL x=kh QL y):x=y:=by
 have:=congrArg zdQ h;rwa[kG,kG]at this
theorem QW{ts:List Tsk}(g:ts.Nodup)(a:(ts.map (kh QL))[j]?=J (kh QL x))(f:Tk->Tk)(n:f (kh QL x)=kh QL' x')(p:∀y∈ts,y≠x->kh QL y=kh QL' y):ts[j]?=J x/\(ts.map (kh QL)).modify j f=(ts.set j x').map (kh QL'):=by
 have k:ts[j]?=J x:=by
  rw[List.getElem?_map]at a;cases h:ts[j]? with
  |none=>rw[h]at a;cases a
  |some y=>rw[h]at a;injection a with a;rw[zmv a]
 refine⟨k,?_⟩;obtain⟨c,d⟩:=List.getElem?_eq_some_iff.1 k;apply List.ext_getElem?;intro i;rw[List.getElem?_modify,List.getElem?_map,List.getElem?_map,List.getElem?_set];by_cases e:j=i
 ·subst e;rw[k];simp[c,n]
 ·rw[if_neg e];cases m:ts[i]? with
  |none=>simp[e]
  |some y=>
   have l:y≠x:=fun h=>by
    subst h;obtain⟨o,b⟩:=List.getElem?_eq_some_iff.1 m;exact e ((List.getElem_inj g).1 (d.trans b.symm))
   simp[e,p y (List.mem_of_getElem? m) l]
theorem vW{α β:Type}{f:α->β}:∀{l:List α},(l.map f).Nodup->l.Nodup
 |[],_=>List.nodup_nil
 |a::l,h=>by
  rw[List.map_cons,List.nodup_cons]at h;exact List.nodup_cons.2 ⟨fun b=>h.1 (List.mem_map.2 ⟨a,b,rfl⟩),vW h.2⟩
theorem xG.nodup(b:MOk c ep m){ts:List Tsk}(a:ts.Perm (m.TL.map (·.2))):ts.Nodup:=by
 rw[a.nodup_iff];have d:((m.TL.map (·.2)).map Tsk.key).Nodup:=by
  rw[List.map_map];have e:m.TL.map (Tsk.key∘fun p:Jk×Tsk=>p.2)=zk m.TL:=by
   unfold zk;apply List.map_congr_left;intro p a;exact(b.td p a).key.symm
  rw[e];exact b.nt
 exact vW d
theorem xG.taken(b:MOk c ep m)(h:xG m.TL m.QL l)(u:(QL'.map (fun q=>q.2.job)).Nodup){t:Tok}(v:p∈m.TL){slot til:Int}(hn:∀q∈m.QL,q.2.job≠p.2.key)(w:∀q,q∈QL'↔q=(t,⟨p.2.kd,p.2.s,slot,til⟩)\/q∈m.QL)(B:l[j]?=J (kh m.QL p.2)):xG m.TL QL' (l.modify j (Tk.leased t.ep t.num slot til)):=by
 obtain⟨ts,a,D,rfl⟩:=h;have d:(⟨p.2.kd,p.2.s,slot,til⟩:Lse).job=p.2.key:=rfl;have o:jD QL' p.2=(t,slot,til):=Q6 u (q:=(t,⟨p.2.kd,p.2.s,slot,til⟩)) ((w _).2 (.inl rfl)) d;obtain⟨F,A⟩:=QW (QL':=QL') (x':=p.2) (xG.nodup b a) B (Tk.leased t.ep t.num slot til) (by unfold Tk.leased kh;rw[o]) (fun y G r=>jM (Qx b.jobs u (fun q C=>by
  rw[w];constructor
  ·exact .inr
  ·rintro(rfl|h)
   ·exfalso;obtain⟨i,e,rfl⟩:=List.mem_map.1 (a.mem_iff.1 G);have z:i.1=p.1:=(by rw[(b.td i e).key,(b.td p v).key];exact C.symm);have x:zE m.TL p.1=J p.2:=xt b.nt v;have g:zE m.TL i.1=J i.2:=xt b.nt e;rw[z,x]at g;injection g with g;exact r g.symm
   ·exact h)))
 rw[A];obtain⟨k,n⟩:=List.getElem?_eq_some_iff.1 F;have f:ts.set j p.2=ts:=by rw[<-n];exact List.set_getElem_self k
 rw[f];exact⟨ts,a,D,rfl⟩
theorem zbl(h:zO w i c ep m q)(b:Q w.1.size w W):∀k,zt W i k->zt w i k:=by
 rintro k (e|e)
 ·exact .inl e
 ·right;have a:fsB W i.d=fsB w i.d:=by unfold fsB;rw[b.cell (p:=(U i.d 0)) h.dlt]
  rw[<-a];exact e
theorem XW(h:zO w i c ep m q)(a:Q w.1.size w W):¬zt W i w.1.size:=fun e=>absurd (h.foot_lt _ (zbl h a _ e)) (Nat.lt_irrefl _)
def zgU(w':World)(i:Ids)(c:Cf)(ep:Int)(m:MS)(q:JM)(t:Tok)(g:Lse)(xs:List SX)(e:Ending):Prop:=
 (yR q.S (xm m.now xs)=false/\e=.returned (I 13)/\zO w' i c ep m {jT q (xm m.now xs)with dn:=true})
 \/(yR q.S (xm m.now xs)=true/\e=.returned (I 0)/\∃q' TL',YO (m.took m.now xs) q q' m.now xs/\zO w' i c ep {m.took m.now xs with TL:=TL',QL:=zT m.QL t} q'/\xB c {m.took m.now xs with TL:=zT m.TL g.job,QL:=zT m.QL t} TL')
theorem JA(h:zO w i c ep m q)(hc:c.ok)(t:Tok)(ht:t.wf)(hg:zE m.QL t=J g)(hj:g.job.wf)(x:Tsk)(hx:zE m.TL g.job=J x)(xs:List SX)(f:∀W,Q w.1.size w W->Hid (Calls prog 53 #[(O i.x),zmS (J x)] W fun e w'=>∃v,e=.returned v/\ju w' W.1.size v xs/\Q W.1.size W w'))(ap:0<=m.now/\m.now<=100000)(aL:m.TL.length<=50000)(aq:∀x∈xs,okX x)(a3:∀x∈yJ (m.took m.now xs).L (m.took m.now xs).Gl,okX x)(aE:xs.length<=1000)(aD:m.L.length<=900000)(aC:m.Gl.length<=49000000)(N:Nat)(hN:N<=900000000000)(hd:DOk q.S N)(aF:0<=q.st/\q.st<=1099511627776)(ak:∀p∈(m.took m.now xs).L,inR c p.1)(R:(m.took m.now xs).L.length<=2000):
  Calls prog 20 #[(O i.x),.agg #[I t.ep,I t.num]] w fun e w'=>zgU w' i c ep m q t g xs e/\Kx i w w':=by
 have a9:Q w.1.size w (w.alloc (.cells #[I t.ep,I t.num] 49)):=(Y _ _).alloc (Nat.le_refl _) _;have q0:=zq w (.cells #[I t.ep,I t.num] 49);have qz:=zM w (.cells #[I t.ep,I t.num] 49);have hX:=h.later a9;obtain⟨-,-,-,-,-,-,-,-,c8,-,ag⟩:=hX.own.cells;have aN:=hX.lt;have aK:=zd q0;obtain⟨k0,k1,-⟩:=zc q0;have ao:(⟨(yY (zE m.QL t)).kd,(yY (zE m.QL t)).s⟩:Jk).wf:=by rw[hg];exact hj
 have HL:∀W,Q w.1.size w W->Hid (Calls prog 51 #[(O i.b),.agg #[I t.ep,I t.num]] W (Rz W (.tuple #[zmS (J x),.bool true]))):=fun W hW=>by
  have:=jU ((h.later (w':=W) hW).board) t ht ao;rw[hg]at this;have e1:zE m.TL ⟨(yY (J g)).kd,(yY (J g)).s⟩=J x:=hx;rw[e1]at this;exact this
 have a1:=fun W (hW:Q w.1.size w W) base v hv=>Xz (h.later hW) m.now (by unfold xz;omega) xs aq a3 aE aD aC N hN hd aF base v hv;generalize zmS (J x)=JV at HL f;have a0:=ze a9;have QZ:=ze qz;have H:=ze h;have Q0:=ze q0;have HG:=ze hg;have aI:=ze hx;have ac:=ze ap;clear h hX a9 q0 qz ao hg hx aq a3 hd;unfold zgU;cases a2:yR q.S (xm m.now xs)
 ·have y:=fun W (hW:Q w.1.size w W) base v hv=>ze ((a1 W hW base v hv).mono (fun e T hh=>(⟨(jL hh.1 a2).1,(Qf hh.1).1,(jL hh.1 a2).2,hh.2⟩:e=.returned (I 13)/\T.cell? (U i.x 8)=J (I m.now)/\zO T i c ep m {jT q (xm m.now xs)with dn:=true}/\Kx i W T)));clear a1 ak R;go_enter func20,ntmps20;go_wp2_with fail;have p1:w.1.size<w.1.size+1:=by omega
  have p2:i.x<w.1.size+1:=by have:=ud QZ;omega
  generalize(w.alloc (.cells #[I t.ep,I t.num] 49))=X at*;generalize hN:w.1.size+1=N at*;have ab:Nonempty (xg N X):=xg.some _ _;have aa:=fun(u:xg N X) b o h=>u.cell b o h;have P:N<=X.1.size:=by rw[ud QZ];exact Nat.le_refl _
  have a4:=ze P;have G:Hid (w.1.size<=N):=by show w.1.size<=N;omega
  have HN:=ze hN;clear P hN;refine zy N (by kernel_rfl) (by kernel_rfl) ?_;repeat(go_big_quiet_step (first
   |(go_at_call 51;exact Calls.later (ud a4) (ud (HL _ ((ud a0).trans (Below.mono (Subtype.property _) (ud G))))))))
  refine wpQuiet_nil ?_;rintro⟨w1,B⟩;clear aa ab;dsimp only;have j:=(ud a0).trans (B.mono (ud G));have z:=(ud H).later j;obtain⟨-,-,-,-,-,-,-,-,e8,-,-⟩:=z.own.cells;have Z:=z.lt;have C:=f w1 j;have D:=f w1.drew j.drew;have F:=ze j;clear f k0 k1 c8 ag B j HL z;go_wp2_with fail;go_region_held3 (fun w'=>w'.cell? (U i.x 8)=J (I m.now)) (go_keep) (first
   |(go_at_call 53;(first|(with_reducible refine(ud C).mono ?_)|(with_reducible refine(ud D).mono ?_));rintro e V ⟨v,rfl,l,d⟩;have hv:Q w1.1.size w1 V:=⟨d.os,d.tape,d.output,d.size,d.block⟩;clear d;have v8:=(hv.cell (p:=(U i.x 8)) Z).trans e8;have aG:=Nat.lt_of_lt_of_le Z hv.size;have n:=(ud F).trans (hv.mono (ud F).size);have a6:=y V n _ v l;have a7:=y V.drew n.drew _ v (xp l (Y _ _).drew);have r:=ze n;clear hv n l y C D)
   |(go_at_call 52;(with_reducible refine(ud a6).mono ?_);rintro e T ⟨rfl,t8,K,A⟩;have HM:=ze K;have HK:=ze ((Kx.below (ud r) (ud H).dlt).trans A);clear K A)
   |(go_at_call 52;(with_reducible refine(ud a7).mono ?_);rintro e T ⟨rfl,t8,K,A⟩;have HM:=ze K;have HK:=ze ((Kx.below (ud r).drew (ud H).dlt).trans A);clear K A))
  all_goals go_wp2_with fail
  all_goals go_ret
  all_goals exact⟨.inl ⟨trivial,rfl,ud HM⟩,ud HK⟩
 ·have y:=fun W (hW:Q w.1.size w W) base v hv=>ze ((a1 W hW base v hv).mono (fun e T hh=>(⟨(kA hh.1 a2).1,(Qf hh.1).1,(kA hh.1 a2).2,hh.2⟩:e=.returned (I 0)/\T.cell? (U i.x 8)=J (I m.now)/\(∃q',YO (m.took m.now xs) q q' m.now xs/\zO T i c ep (m.took m.now xs) q')/\Kx i W T)));clear a1;go_enter func20,ntmps20;go_wp2_with fail;have p1:w.1.size<w.1.size+1:=by omega
  have p2:i.x<w.1.size+1:=by have:=ud QZ;omega
  generalize(w.alloc (.cells #[I t.ep,I t.num] 49))=X at*;generalize hN:w.1.size+1=N at*;have ab:Nonempty (xg N X):=xg.some _ _;have aa:=fun(u:xg N X) b o h=>u.cell b o h;have P:N<=X.1.size:=by rw[ud QZ];exact Nat.le_refl _
  have a4:=ze P;have G:Hid (w.1.size<=N):=by show w.1.size<=N;omega
  have HN:=ze hN;clear P hN;refine zy N (by kernel_rfl) (by kernel_rfl) ?_;repeat(go_big_quiet_step (first
   |(go_at_call 51;exact Calls.later (ud a4) (ud (HL _ ((ud a0).trans (Below.mono (Subtype.property _) (ud G))))))))
  refine wpQuiet_nil ?_;rintro⟨w1,B⟩;clear aa ab;dsimp only;have j:=(ud a0).trans (B.mono (ud G));have z:=(ud H).later j;obtain⟨-,-,-,-,-,-,-,-,e8,-,-⟩:=z.own.cells;have Z:=z.lt;have ar:=(B.block _ (show w.1.size<N by have:=ud HN;omega)).trans (ud Q0);have ad:=ze ar;have C:=f w1 j;have D:=f w1.drew j.drew;have F:=ze j;clear f k0 k1 c8 ag B j HL z ar;go_wp2_with fail;go_region_held3 (fun w'=>w'.cell? (U i.x 8)=J (I m.now)) (go_keep) (first
   |(go_at_call 53;(first|(with_reducible refine(ud C).mono ?_)|(with_reducible refine(ud D).mono ?_));rintro e V ⟨v,rfl,l,d⟩;have hv:Q w1.1.size w1 V:=⟨d.os,d.tape,d.output,d.size,d.block⟩;clear d;have v8:=(hv.cell (p:=(U i.x 8)) Z).trans e8;have aG:=Nat.lt_of_lt_of_le Z hv.size;have n:=(ud F).trans (hv.mono (ud F).size);have ae:=ze ((hv.block _ (zd (ud ad))).trans (ud ad));have a6:=y V n _ v l;have a7:=y V.drew n.drew _ v (xp l (Y _ _).drew);have r:=ze n;clear hv n l y C D)
   |(go_at_call 52;(with_reducible refine(ud a6).mono ?_);rintro e T ⟨rfl,t8,⟨q',hA,K⟩,A⟩;have a5:=ze (A.kept.heap (ud ae) (XW (ud H) (ud r)));have HA:=ze hA;have HM:=ze K;have HK:=ze ((Kx.below (ud r) (ud H).dlt).trans A);clear K A hA)
   |(go_at_call 52;(with_reducible refine(ud a7).mono ?_);rintro e T ⟨rfl,t8,⟨q',hA,K⟩,A⟩;have a5:=ze (A.kept.heap (k:=w.1.size) (ud ae) (XW (ud H) (ud r).drew));have HA:=ze hA;have HM:=ze K;have HK:=ze ((Kx.below (ud r).drew (ud H).dlt).trans A);clear K A hA))
  all_goals(
   have M:zO T i c ep {m with L:=(m.took m.now xs).L,Gl:=(m.took m.now xs).Gl} q':=ud HM
   obtain⟨-,-,-,-,-,-,-,-,-,-,aJ⟩:=M.own.cells
   have aM:=M.lt
   obtain⟨t0,t1,-⟩:=zc (ud a5)
   have aH:=zd (ud a5)
   have au:=ze (zkQ ((M.later (Y _ _).drew).board) t ht (ud HG) hj)
   have ax:=ze M
   clear M
   go_wp2_with fail
   refine qH 5 (by kernel_rfl) (by kernel_rfl) ?_
   simp only[List.take_succ_cons,List.take_zero,List.drop_succ_cons,List.drop_zero]
   repeat still_step
   refine wpStill_nil ?_
   go_wp2_with(first|(go_at_call 54;refine(ud au).mono ?_;rintro e V2 ⟨rfl,ah,hK2⟩;have aB:=ze ah;have av:=ze hK2;clear ah hK2))
   have an:zi (Zc i.b i.tb i.qb) T V2:=((zi.refl (Zc i.b i.tb i.qb) T).drew).trans ((ud av).mono (fun k _ e=> .inr e)) (fun _ _ e=>e)
   obtain⟨a8,ai⟩:=(ud ax).putBoard (ud aB) an
   have aA:=ze (zaf a8.own hc ak R (ud ac) (by have:=Vm (L:=m.TL) (a:=g.job);show(zT m.TL g.job).length<=50000;omega))
   have ay:=ze a8
   have aw:=ze ((ud HK).trans ai)
   clear an a8 ai
   go_wp2_with(first|(go_at_call 55;refine(ud aA).mono ?_;rintro e V3 ⟨rfl,TL',al,aj,am⟩;have af:=ze ((ud ay).put al aj (fun k e=> .inr (.inr (.inr (.inl e)))));have az:=ze am;clear al aj am))
   go_ret
   exact⟨.inr ⟨trivial,rfl,q',TL',ud HA,(ud af).1,ud az⟩,(ud aw).trans (ud af).2⟩)
def zax(x x' z:Tsk):Tsk:=if z.key=x.key then x' else z
theorem zeZ(h:x'.kd=x.kd/\x'.s=x.s)(z:Tsk):(zax x x' z).kd=z.kd/\(zax x x' z).s=z.s:=by
 unfold zax;split
 ·rename_i e;unfold Tsk.key at e;injection e with a b;exact⟨h.1.trans a.symm,h.2.trans b.symm⟩
 ·exact⟨rfl,rfl⟩
theorem zmp{ts:List Tsk}(f:(ts.map Tsk.key).Nodup)(k:ts[j]?=J x):ts.set j x'=ts.map (zax x x'):=by
 obtain⟨a,d⟩:=List.getElem?_eq_some_iff.1 k;apply List.ext_getElem?;intro i;rw[List.getElem?_set,List.getElem?_map];by_cases e:j=i
 ·subst e;rw[k];simp[a,zax]
 ·rw[if_neg e];cases l:ts[i]? with
  |none=>rfl
  |some y=>
   have g:¬y.key=x.key:=fun h=>by
    obtain⟨b,c⟩:=List.getElem?_eq_some_iff.1 l;have a1:(ts.map Tsk.key)[j]'(by simpa using a)=(ts.map Tsk.key)[i]'(by simpa using b):=(by simp[d,c,h]);exact e ((List.getElem_inj f).1 a1)
   simp[zax,g]
theorem xG.failed(g:MOk c ep m)(h:xG m.TL m.QL l){k:Jk}(M:zE m.TL k=J x)(i:x'.kd=x.kd/\x'.s=x.s)(D:(QL'.map (fun q=>q.2.job)).Nodup)(K:∀q,q∈QL'↔q∈m.QL/\q.2.job≠x.key)(f:Tk->Tk)(G:f (kh m.QL x)=kh QL' x')(H:l[j]?=J (kh m.QL x)):xG (qj m.TL k x') QL' (l.modify j f):=by
 obtain⟨ts,d,L,rfl⟩:=h;have r:=zA M;have o:k=x.key:=(g.td _ r).key;have n:(ts.map Tsk.key).Nodup:=by
  have C:((m.TL.map (·.2)).map Tsk.key).Nodup:=by
   rw[List.map_map];have e:m.TL.map (Tsk.key∘fun p:Jk×Tsk=>p.2)=zk m.TL:=by
    unfold zk;apply List.map_congr_left;intro p r;exact(g.td p r).key.symm
   rw[e];exact g.nt
  exact((d.map Tsk.key).nodup_iff).2 C
 obtain⟨z,F⟩:=QW (QL':=QL') (x':=x') (xG.nodup g d) H f G (fun y N v=>jM (Qx g.jobs D (fun q I=>by
  rw[K];constructor
  ·refine fun h=>⟨h,fun e=>?_⟩;apply v;exact yL n y N x (d.mem_iff.2 (List.mem_map.2 ⟨_,r,rfl⟩)) (I.symm.trans e)
  ·exact fun h=>h.1)))
 rw[F,zmp n z];refine⟨ts.map (zax x x'),?_,?_,rfl⟩
 ·have e:(qj m.TL k x').map (·.2)=(m.TL.map (·.2)).map (zax x x'):=by
   unfold qj;have u:k∈zk m.TL:=List.mem_map.2 ⟨_,r,rfl⟩;rw[if_pos u,List.map_map,List.map_map];apply List.map_congr_left;intro p w;have t:=(g.td p w).key;simp only[Function.comp,zax];by_cases e:p.1=k
   ·rw[if_pos e,if_pos (by rw[<-t,e,o])]
   ·rw[if_neg e,if_neg (fun h=>e (by rw[t,h,o]))]
  rw[e];exact d.map _
 ·rw[List.pairwise_map];refine L.imp (fun{a b} h=>?_);have A:=zeZ i a;have B:=zeZ i b;rw[qQ]at h ⊢;rw[A.1,A.2,B.1,B.2];exact h
theorem zhV(d:MOk c ep m)(s:xG m.TL m.QL r.td)(hn:r.now=m.now)(y:∀q∈m.QL,0<=q.2.slot)(e n:Int)(k:zE m.QL ⟨e,n⟩=J g)(p:zE m.TL g.job=J x):
  (r.fail e n).2=0/\(r.fail e n).1={r with td:=(r.fail e n).1.td}/\xG (qj m.TL g.job (x.failed m.now)) (zT m.QL ⟨e,n⟩) (r.fail e n).1.td:=by
 obtain⟨j,t,u⟩:=QA d s y e n k p;have l:g.job=x.key:=(d.td _ (zA p)).key;have v:r.fail e n=({r with td:=r.td.modify j (Tk.fail r.now)},0):=by unfold RM.fail;rw[t]
 rw[v];refine⟨rfl,rfl,?_⟩;have h:=zA k;refine xG.failed (x':=x.failed m.now) (QL':=zT m.QL ⟨e,n⟩) d s p ⟨rfl,rfl⟩ (ZQ d.jobs _) (fun q=>?_) (Tk.fail r.now) ?_ u
 ·rw[zS];constructor
  ·rintro⟨a,b⟩;exact⟨a,fun f=>Zv d.jobs h (zS.2 ⟨a,b⟩) (f.trans l.symm)⟩
  ·rintro⟨a,b⟩;refine⟨a,fun f=>b ?_⟩;have i:zE m.QL q.1=J q.2:=xt d.nq a;rw[f,k]at i;injection i with i;rw[<-i,l]
 ·have o:jD (zT m.QL ⟨e,n⟩) (x.failed m.now)=(⟨0,0⟩,-1,0):=Zu (fun q w f=>Zv d.jobs h w (f.trans l.symm));rw[hn];unfold Tk.fail kh;rw[o];rfl
theorem Kt(a b:Tk):Qb a b=true↔(a.kind<b.kind\/a.kind=b.kind/\(a.s.t<b.s.t\/a.s.t=b.s.t/\(a.s.sr<b.s.sr\/a.s.sr=b.s.sr/\a.s.wn<b.s.wn))):=by
 unfold Qb;repeat' split
 all_goals(simp only[decide_eq_true_eq];omega)
theorem Ku(lt:Tk->Tk->Bool)(x y:Tk):∀l:List Tk,y∈Vl lt x l↔y=x\/y∈l
 |[]=>by simp[Vl]
 |z::l=>by
  unfold Vl;split
  ·simp
  ·rw[List.mem_cons,Ku lt x y l,List.mem_cons];constructor
   ·rintro(h|h|h)
    ·exact .inr (.inl h)
    ·exact .inl h
    ·exact .inr (.inr h)
   ·rintro(h|h|h)
    ·exact .inr (.inl h)
    ·exact .inl h
    ·exact .inr (.inr h)
theorem Ya(x:Tk):∀l:List Tk,l.Pairwise (fun a b=>¬Qb b a=true)->(Vl Qb x l).Pairwise (fun a b=>¬Qb b a=true)
 |[],_=>by simp[Vl]
 |z::l,h=>by
  rw[List.pairwise_cons]at h;unfold Vl;split
  ·rename_i hlt;rw[List.pairwise_cons];refine⟨fun y c=>?_,List.pairwise_cons.2 h⟩;rcases List.mem_cons.1 c with rfl|c
   ·rw[Kt]at*;omega
   ·have:=h.1 y c;rw[Kt]at*;omega
  ·rename_i hlt;rw[List.pairwise_cons];refine⟨fun y c=>?_,Ya x l h.2⟩;rcases(Ku _ _ _ _).1 c with rfl|c
   ·exact hlt
   ·exact h.1 y c
theorem Zx{m:RM}{l:List Sg}{k:Tk}:k∈jq m l kind out s↔(vD m kind s l=true/\k=yH m kind s)\/k∈out:=by
 unfold jq;split
 ·rename_i h;rw[Ku];simp[h]
 ·rename_i h;simp[h]
theorem Yb{m:RM}{l:List Sg}(h:out.Pairwise (fun a b=>¬Qb b a=true)):(jq m l kind out s).Pairwise (fun a b=>¬Qb b a=true):=by
 unfold jq;split
 ·exact Ya _ _ h
 ·exact h
theorem Ke(m:RM)(l:List Sg):∀(xs:List Sg) (out:List Tk),out.Pairwise (fun a b=>¬Qb b a=true)->(xs.foldl (fun out s=>jq m l 2 (jq m l 1 out s) s) out).Pairwise (fun a b=>¬Qb b a=true)/\∀k,k∈xs.foldl (fun out s=>jq m l 2 (jq m l 1 out s) s) out↔k∈out\/∃s∈xs,∃kind,(kind=1\/kind=2)/\vD m kind s l=true/\k=yH m kind s
 |[],out,h=>⟨h,fun k=>by simp⟩
 |x::xs,out,h=>by
  obtain⟨e,f⟩:=Ke m l xs _ (Yb (m:=m) (l:=l) (kind:=2) (s:=x) (Yb (m:=m) (l:=l) (kind:=1) (s:=x) h));refine⟨e,fun k=>?_⟩;rw[List.foldl_cons,f,Zx,Zx];constructor
  ·rintro((⟨a,b⟩|⟨a,b⟩|a)|⟨s,c,a⟩)
   ·exact .inr ⟨x,by simp,2,.inr rfl,a,b⟩
   ·exact .inr ⟨x,by simp,1,.inl rfl,a,b⟩
   ·exact .inl a
   ·exact .inr ⟨s,by simp[c],a⟩
  ·rintro(a|⟨s,c,kind,d,a,b⟩)
   ·exact .inl (.inr (.inr a))
   ·rcases List.mem_cons.1 c with rfl|c
    ·rcases d with rfl|rfl
     ·exact .inl (.inr (.inl ⟨a,b⟩))
     ·exact .inl (.inl ⟨a,b⟩)
    ·exact .inr ⟨s,c,kind,d,a,b⟩
theorem ZE(m:RM):m.settled.td.Pairwise (fun a b=>¬Qb b a=true)/\∀k,k∈m.settled.td↔∃s∈xd m.c m.nu,∃kind,(kind=1\/kind=2)/\vD m kind s (xd m.c m.nu)=true/\k=yH m kind s:=by
 have h:=Ke m (xd m.c m.nu) (xd m.c m.nu) [] List.Pairwise.nil;have e:m.settled.td=(xd m.c m.nu).foldl (fun out s=>jq m (xd m.c m.nu) 2 (jq m (xd m.c m.nu) 1 out s) s) []:=by
  unfold RM.settled ZW;simp only[List.take_length]
 rw[e];refine⟨h.1,fun k=>?_⟩;rw[h.2];simp
theorem Jb(lt:Tk->Tk->Bool)(x:Tk):∀l:List Tk,(Vl lt x l).Perm (x::l)
 |[]=> .refl _
 |z::l=>by
  unfold Vl;split
  ·exact .refl _
  ·exact((Jb lt x l).cons z).trans (.swap x z l)
theorem vL(m:RM)(kind:Int)(s:Sg):(yH m kind s).kind=kind/\(yH m kind s).s=s:=by
 unfold yH;have:∀(l:List Tk) (t:Tk),t.kind=kind/\t.s=s->(l.foldl (kV kind s) t).kind=kind/\(l.foldl (kV kind s) t).s=s:=fun l=>by
  induction l with
  |nil=>exact fun t h=>h
  |cons x l a=>
   intro t h;refine a _ ?_;unfold kV;split
   ·rename_i e;exact e
   ·exact h
 exact this _ _ ⟨rfl,rfl⟩
theorem VN(m:RM)(l:List Sg):∀(xs:List Sg) (out:List Tk),xs.Nodup->out.Nodup->(∀k∈out,k.s∉xs)->(xs.foldl (fun out s=>jq m l 2 (jq m l 1 out s) s) out).Nodup
 |[],out,_,h,_=>h
 |x::xs,out,c,h,d=>by
  rw[List.nodup_cons]at c;rw[List.foldl_cons];have b:∀(kind:Int) (o:List Tk),o.Nodup->(∀k∈o,k.s=x->k.kind≠kind)->(jq m l kind o x).Nodup:=fun kind o f a=>by
   unfold jq;split
   ·rw[(Jb _ _ _).nodup_iff,List.nodup_cons];exact⟨fun j=>a _ j (vL m kind x).2 (vL m kind x).1,f⟩
   ·exact f
  have g:=b 1 out h (fun k a e=>absurd (by simp[e]) (d k a));have i:=b 2 _ g (fun k a e=>by
   rcases Zx.1 a with⟨-,rfl⟩|a
   ·rw[(vL m 1 x).1];decide
   ·exact absurd (by simp[e]) (d k a))
  refine VN m l xs _ c.2 i (fun k a=>?_);rcases Zx.1 a with⟨-,rfl⟩|a
  ·rw[(vL m 2 x).2];exact c.1
  ·rcases Zx.1 a with⟨-,rfl⟩|a
   ·rw[(vL m 1 x).2];exact c.1
   ·exact fun e=>d k a (by simp[e])
theorem zau(m:RM):m.settled.td.Nodup:=by
 have e:m.settled.td=(xd m.c m.nu).foldl (fun out s=>jq m (xd m.c m.nu) 2 (jq m (xd m.c m.nu) 1 out s) s) []:=by
  unfold RM.settled ZW;simp only[List.take_length]
 rw[e];exact VN m _ _ [] (Y6 _ _) List.nodup_nil (fun k a=>by cases a)
theorem xG.of_settled(c:∀p∈TL,p.1=p.2.key)(hn:(zk TL).Nodup)(m:∀p∈TL,kh QL p.2∈r.settled.td)(i:∀k∈r.settled.td,∃p∈TL,k=kh QL p.2):xG TL QL r.settled.td:=by
 have g:(r.settled.td.map zdQ).map (kh QL)=r.settled.td:=by
  rw[List.map_map]
  conv=>rhs;rw[<-List.map_id r.settled.td]
  apply List.map_congr_left;intro k c;obtain⟨p,-,rfl⟩:=i k c;simp only[Function.comp,kG,id]
 have j:(r.settled.td.map zdQ).Nodup:=vW (f:=kh QL) (by rw[g];exact zau r);have l:(TL.map (·.2)).Nodup:=by
  refine vW (f:=Tsk.key) ?_;rw[List.map_map];have e:TL.map (Tsk.key∘fun p:Jk×Tsk=>p.2)=zk TL:=by
   unfold zk;apply List.map_congr_left;intro p d;exact(c p d).symm
  rw[e];exact hn
 refine⟨r.settled.td.map zdQ,?_,?_,g.symm⟩
 ·rw[List.perm_ext_iff_of_nodup j l];intro x;rw[List.mem_map,List.mem_map];constructor
  ·rintro⟨k,c,rfl⟩;obtain⟨p,d,rfl⟩:=i k c;exact⟨p,d,by rw[kG]⟩
  ·rintro⟨p,d,rfl⟩;exact⟨_,m p d,by rw[kG]⟩
 ·rw[List.pairwise_map];refine List.Pairwise.imp_of_mem (fun{a b} n o h=>?_) (ZE r).1;obtain⟨p,-,rfl⟩:=i a n;obtain⟨q,-,rfl⟩:=i b o;rw[kG,kG,qQ];rw[Kt]at h;exact h
theorem zqe{T:List (Jk×Tsk)}(hn:(zk T).Nodup)(now:Int)(b:Bool)(kd:Int)(s:Sg)(k:Jk)(x:Tsk):∀a,(a=match zE T ⟨kd,s⟩with|some _=>T|none=>qj T ⟨kd,s⟩ ⟨b,s,now,0,0⟩)->((zk a).Nodup/\(zE a k=J x↔zE T k=J x\/(zE T k=E/\k=⟨kd,s⟩/\x=⟨b,s,now,0,0⟩))):=by
 rintro a rfl;split
 ·rename_i y hy;refine⟨hn,⟨.inl,?_⟩⟩;rintro(h|⟨c,d,-⟩)
  ·exact h
  ·rw[d,hy]at c;cases c
 ·rename_i hy;refine⟨qq hn,?_⟩;rw[vd hn];by_cases e:k=⟨kd,s⟩
  ·rw[if_pos e,e,hy];simp[eq_comm]
  ·rw[if_neg e];simp[e]
theorem zbn{now:Int}:∀(ys:List Sg) {T:List (Jk×Tsk)},(zk T).Nodup->(zk (ys.foldl (yp now) T)).Nodup/\∀k x,zE (ys.foldl (yp now) T) k=J x↔zE T k=J x\/(zE T k=E/\∃s∈ys,k=⟨1,s⟩/\x=⟨true,s,now,0,0⟩)
 |[],T,hn=>⟨hn,fun k x=>by simp⟩
 |y::ys,T,hn=>by
  have c:=fun k x=>zqe hn now true 1 y k x (yp now T y) rfl;obtain⟨j,l⟩:=zbn ys (c ⟨1,y⟩ ⟨true,y,now,0,0⟩).1;refine⟨j,fun k x=>?_⟩;rw[List.foldl_cons,l,(c k x).2];have i:zE (yp now T y) k=E↔zE T k=E/\k≠⟨1,y⟩:=by
   constructor
   ·intro h;refine⟨?_,fun e=>?_⟩
    ·cases f:zE T k with
     |none=>rfl
     |some z=>rw[(c k z).2.2 (.inl f)]at h;cases h
    ·cases f:zE T k with
     |none=>rw[(c k _).2.2 (.inr ⟨f,e,rfl⟩)]at h;cases h
     |some z=>rw[(c k z).2.2 (.inl f)]at h;cases h
   ·rintro⟨a,b⟩;cases f:zE (yp now T y) k with
    |none=>rfl
    |some z=>
     rcases(c k z).2.1 f with h|⟨-,h,-⟩
     ·rw[a]at h;cases h
     ·exact absurd h b
  rw[i];constructor
  ·rintro((a|⟨a,b,d⟩)|⟨⟨a,-⟩,s,g,b,d⟩)
   ·exact .inl a
   ·exact .inr ⟨a,y,by simp,b,d⟩
   ·exact .inr ⟨a,s,by simp[g],b,d⟩
  ·rintro(a|⟨a,s,g,b,d⟩)
   ·exact .inl (.inl a)
   ·by_cases e:k=⟨1,y⟩
    ·have:s=y:=(by rw[b]at e;injection e);subst this;exact .inl (.inr ⟨a,b,d⟩)
    ·rcases List.mem_cons.1 g with rfl|g
     ·exact absurd b e
     ·exact .inr ⟨⟨a,e⟩,s,g,b,d⟩
theorem zbm{now:Int}:∀(ys:List Sg) {T:List (Jk×Tsk)},(zk T).Nodup->(zk (ys.foldl (yS now) T)).Nodup/\∀k x,zE (ys.foldl (yS now) T) k=J x↔zE T k=J x\/(zE T k=E/\∃s∈ys,k=⟨2,s⟩/\x=⟨false,s,now,0,0⟩)
 |[],T,hn=>⟨hn,fun k x=>by simp⟩
 |y::ys,T,hn=>by
  have c:=fun k x=>zqe hn now false 2 y k x (yS now T y) rfl;obtain⟨j,l⟩:=zbm ys (c ⟨2,y⟩ ⟨false,y,now,0,0⟩).1;refine⟨j,fun k x=>?_⟩;rw[List.foldl_cons,l,(c k x).2];have i:zE (yS now T y) k=E↔zE T k=E/\k≠⟨2,y⟩:=by
   constructor
   ·intro h;refine⟨?_,fun e=>?_⟩
    ·cases f:zE T k with
     |none=>rfl
     |some z=>rw[(c k z).2.2 (.inl f)]at h;cases h
    ·cases f:zE T k with
     |none=>rw[(c k _).2.2 (.inr ⟨f,e,rfl⟩)]at h;cases h
     |some z=>rw[(c k z).2.2 (.inl f)]at h;cases h
   ·rintro⟨a,b⟩;cases f:zE (yS now T y) k with
    |none=>rfl
    |some z=>
     rcases(c k z).2.1 f with h|⟨-,h,-⟩
     ·rw[a]at h;cases h
     ·exact absurd h b
  rw[i];constructor
  ·rintro((a|⟨a,b,d⟩)|⟨⟨a,-⟩,s,g,b,d⟩)
   ·exact .inl a
   ·exact .inr ⟨a,y,by simp,b,d⟩
   ·exact .inr ⟨a,s,by simp[g],b,d⟩
  ·rintro(a|⟨a,s,g,b,d⟩)
   ·exact .inl (.inl a)
   ·by_cases e:k=⟨2,y⟩
    ·have:s=y:=(by rw[b]at e;injection e);subst this;exact .inl (.inr ⟨a,b,d⟩)
    ·rcases List.mem_cons.1 g with rfl|g
     ·exact absurd b e
     ·exact .inr ⟨⟨a,e⟩,s,g,b,d⟩
theorem xB.get(hn:(zk m.TL).Nodup)(t:xB c m TL'):∃(Bs:List (Sg×Unit)),(∀x,x∈zk Bs↔∃k,k∈zn m.L/\(stL m.L k).st=2/\x∈yw c k)/\(zk TL').Nodup/\∀k x,zE TL' k=J x↔zE m.TL k=J x\/(zE m.TL k=E/\∃s∈zn m.L,(yU c Bs m.L m.now s=true/\k=⟨1,s⟩/\x=⟨true,s,m.now,0,0⟩)\/(yT c m.L m.now s=true/\k=⟨2,s⟩/\x=⟨false,s,m.now,0,0⟩)):=by
 obtain⟨Bs,g,p,r,j,l,rfl⟩:=t.tO;obtain⟨n1,i⟩:=zbn (now:=m.now) g hn;obtain⟨u,q⟩:=zbm (now:=m.now) p n1;refine⟨Bs,r,u,fun k x=>?_⟩;rw[q,i];have o:zE (g.foldl (yp m.now) m.TL) k=E↔zE m.TL k=E/\∀s∈g,k≠⟨1,s⟩:=by
  constructor
  ·intro h;have a:zE m.TL k=E:=by
    cases n:zE m.TL k with
    |none=>rfl
    |some z=>rw[(i k z).2 (.inl n)]at h;cases h
   exact⟨a,fun s f e=>by rw[(i k _).2 (.inr ⟨a,s,f,e,rfl⟩)]at h;cases h⟩
  ·rintro⟨a,b⟩;cases n:zE (g.foldl (yp m.now) m.TL) k with
   |none=>rfl
   |some z=>
    rcases(i k z).1 n with h|⟨-,s,f,e,-⟩
    ·rw[a]at h;cases h
    ·exact absurd e (b s f)
 rw[o];constructor
 ·rintro((a|⟨a,s,f,b,d⟩)|⟨⟨a,-⟩,s,f,b,d⟩)
  ·exact .inl a
  ·exact .inr ⟨a,s,((j s).1 f).1,.inl ⟨((j s).1 f).2,b,d⟩⟩
  ·exact .inr ⟨a,s,((l s).1 f).1,.inr ⟨((l s).1 f).2,b,d⟩⟩
 ·rintro(a|⟨a,s,f,⟨h,b,d⟩|⟨h,b,d⟩⟩)
  ·exact .inl (.inl a)
  ·exact .inl (.inr ⟨a,s,(j s).2 ⟨f,h⟩,b,d⟩)
  ·exact .inr ⟨⟨a,fun s' _ e=>by rw[b]at e;injection e with v;omega⟩,s,(l s).2 ⟨f,h⟩,b,d⟩
def ms0:MS:=⟨0,[],[],0,[],[]⟩
def okN(x:SX):Prop:=x.2.st=2\/x.2.st=4->x.2.cl=qA
inductive ki (c:Cf) (ep:Int):MS->List Nm->ByteArray->Prop
 |start (m:MS) (ns:List Nm) (txt:ByteArray) (hf:c.fits) (hs:SOk c ep m ns.length) (ho:∀x∈yJ m.L m.Gl,okX x) (hn0:∀x∈yJ m.L m.Gl,okN x) (h1:ep=1->m=ms0/\ns=[]/\txt=xm 0 []++nl):ki c ep m ns txt
 |laid (m:MS) (ns:List Nm) (txt:ByteArray) (m':MS) (ns':List Nm) (xs:List SX) (h:ki c ep m ns txt) (ha:XK c ep m ns m' ns') (hx:∀x∈xs,okX x) (hL:m'.L=(qr (m.Gl,m.L) xs).2) (hG:m'.Gl=(qr (m.Gl,m.L) xs).1) (hxn:∀x∈xs,okN x) (hnd:(xs.map (·.1)).Nodup) (hxl:xs.length<=1000):ki c ep m' ns' (txt++(xm m'.now xs++nl))
 |quiet (m:MS) (ns:List Nm) (txt:ByteArray) (m':MS) (ns':List Nm) (h:ki c ep m ns txt) (ha:XK c ep m ns m' ns') (hn:m'.now=m.now) (hL:m'.L=m.L) (hG:m'.Gl=m.Gl):ki c ep m' ns' txt
 |anew (m:MS) (ns:List Nm) (txt:ByteArray) (ys:List SX) (h:ki c ep m ns txt) (hp:ys.Perm (yJ m.L m.Gl)):ki c ep m ns (xm m.now ys++nl)
theorem vY:∀(xs:List SX) (G:List (Sg×Unit)) (L:LV),(∀x∈yJ L G,okX x)->(∀x∈xs,okX x)->∀x∈yJ (qr (G,L) xs).2 (qr (G,L) xs).1,okX x
 |[],G,L,h,_=>h
 |y::xs,G,L,h,d=>by
  have f:=d y (by simp);have b:∀x∈yJ (jn (G,L) y).2 (jn (G,L) y).1,okX x:=fun x a=>by
   unfold jn yJ at a;split at a
   ·rcases List.mem_append.1 a with a|a
    ·exact h x (List.mem_append_left _ (zS.1 a).1)
    ·obtain⟨g,c,rfl⟩:=List.mem_map.1 a;rcases ym c with rfl|⟨c,_⟩
     ·exact⟨f.key,by show xz 4;unfold xz;omega,by show xz 0;unfold xz;omega,by show xz 0;unfold xz;omega,by show(-2147483648:Int)<=0/\(0:Int)<=2147483647;omega,by show(-2147483648:Int)<=0/\(0:Int)<=2147483647;omega⟩
     ·exact h _ (List.mem_append_right _ (List.mem_map.2 ⟨g,c,rfl⟩))
   ·rcases List.mem_append.1 a with a|a
    ·rcases qv a with rfl|⟨a,_⟩
     ·exact f
     ·exact h x (List.mem_append_left _ a)
    ·exact h x (List.mem_append_right _ a)
  have e:qr (G,L) (y::xs)=qr ((jn (G,L) y).1,(jn (G,L) y).2) xs:=rfl;rw[e];exact vY xs _ _ b (fun x a=>d x (by simp[a]))
theorem zeG:∀(xs:List SX) (G:List (Sg×Unit)) (L:LV),(∀x∈yJ L G,okN x)->(∀x∈xs,okN x)->∀x∈yJ (qr (G,L) xs).2 (qr (G,L) xs).1,okN x
 |[],G,L,h,_=>h
 |y::xs,G,L,h,d=>by
  have f:=d y (by simp);have b:∀x∈yJ (jn (G,L) y).2 (jn (G,L) y).1,okN x:=fun x a=>by
   unfold jn yJ at a;split at a
   ·rcases List.mem_append.1 a with a|a
    ·exact h x (List.mem_append_left _ (zS.1 a).1)
    ·obtain⟨g,c,rfl⟩:=List.mem_map.1 a;rcases ym c with rfl|⟨c,_⟩
     ·exact fun _=>rfl
     ·exact h _ (List.mem_append_right _ (List.mem_map.2 ⟨g,c,rfl⟩))
   ·rcases List.mem_append.1 a with a|a
    ·rcases qv a with rfl|⟨a,_⟩
     ·exact f
     ·exact h x (List.mem_append_left _ a)
    ·exact h x (List.mem_append_right _ a)
  have e:qr (G,L) (y::xs)=qr ((jn (G,L) y).1,(jn (G,L) y).2) xs:=rfl;rw[e];exact zeG xs _ _ b (fun x a=>d x (by simp[a]))
section
variable {c:Cf} {ep:Int} {m:MS} {ns:List Nm} {txt:ByteArray}
theorem ki.fits(h:ki c ep m ns txt):c.fits:=by
 induction h with
 |start m ns txt f p n g l=>exact f
 |laid m ns txt m' ns' xs h e q d b k i j a=>exact a
 |quiet m ns txt m' ns' h e hn d b a=>exact a
 |anew m ns txt ys h o a=>exact a
theorem ki.sok(h:ki c ep m ns txt)(e:c.ok):SOk c ep m ns.length:=by
 have d:=h.fits;induction h with
 |start m ns txt d k p i o=>exact k
 |laid m ns txt m' ns' xs h b r g f n j l a=>exact b.ok e d a
 |quiet m ns txt m' ns' h b hn g f a=>exact b.ok e d a
 |anew m ns txt ys h q a=>exact a
theorem ki.okA(h:ki c ep m ns txt):∀x∈yJ m.L m.Gl,okX x:=by
 induction h with
 |start m ns txt o q i f n=>exact i
 |laid m ns txt m' ns' xs h e j d b l g k a=>rw[d,b];exact vY xs _ _ a j
 |quiet m ns txt m' ns' h e hn d b a=>rw[d,b];exact a
 |anew m ns txt ys h p a=>exact a
theorem ki.okN(h:ki c ep m ns txt):∀x∈yJ m.L m.Gl,okN x:=by
 induction h with
 |start m ns txt l p n e k=>exact e
 |laid m ns txt m' ns' xs h g q d b f i j a=>rw[d,b];exact zeG xs _ _ a f
 |quiet m ns txt m' ns' h g hn d b a=>rw[d,b];exact a
 |anew m ns txt ys h o a=>exact a
end
structure YR(w:World)(i:Ids)(c:Cf)(ep:Int)(m:MS)(q:JM)(txt:ByteArray)(ns:List Nm):Prop where
 at_:zO w i c ep m q
 up:q.dn=false
 dsk:q.S=jS ep.toNat txt
 e1:1<=ep/\ep<=1000000000
 st:0<=q.st/\q.st<=100000000000
 tx:(txt.size:Int)<=2*q.st+4096
 hist:ki c ep m ns txt
def zF(w:World)(i:Ids)(c:Cf)(ep:Int)(m:MS):Prop:=∃q txt ns,YR w i c ep m q txt ns
section
variable {w w':World} {i:Ids} {c:Cf} {ep:Int} {m:MS} {q:JM} {txt:ByteArray} {ns:List Nm}
theorem zF.own(h:zF w i c ep m):xK false w i c ep m:=by
 obtain⟨q,txt,ns,h⟩:=h;have:=h.at_.own;rw[h.up]at this;exact this
theorem zF.head(h:zF w i c ep m):w.1[i.x]?=J (.cells #[I c.s,I c.le,I c.la,I c.wi,I c.ke,I c.qu,i.tv,I ep,I m.now,(O i.s),(O i.b),(O i.j),.bool false] 94 (0,0)):=h.own.head
theorem zF.set(h:zF w i c ep m):xI w i.s c i.tv i.lb i.gb m.Gl m.L:=h.own.set
theorem zF.board(h:zF w i c ep m):zC w i.b c i.tv ep m.num i.tb i.qb m.TL m.QL:=h.own.board
theorem zF.lt(h:zF w i c ep m):i.x<w.1.size:=zd h.head
theorem zF.dlt(h:zF w i c ep m):i.d<w.1.size:=by obtain⟨q,txt,ns,h⟩:=h;exact h.at_.dlt
theorem zF.tab(h:zF w i c ep m):Qo w:=by obtain⟨q,txt,ns,h⟩:=h;exact h.at_.tab
theorem zF.ts(h:zF w i c ep m):∃a cap,i.tv=.slice a c.n cap/\TS w a c.n c.F c.W c.K:=h.own.ts
theorem zF.cells(h:zF w i c ep m):w.cell? (U i.x 0)=J (I c.s)/\w.cell? (U i.x 1)=J (I c.le)/\w.cell? (U i.x 2)=J (I c.la)/\w.cell? (U i.x 3)=J (I c.wi)/\w.cell? (U i.x 4)=J (I c.ke)/\w.cell? (U i.x 5)=J (I c.qu)/\w.cell? (U i.x 6)=J i.tv/\w.cell? (U i.x 7)=J (I ep)/\w.cell? (U i.x 8)=J (I m.now)/\w.cell? (U i.x 9)=J (O i.s)/\w.cell? (U i.x 10)=J (O i.b):=h.own.cells
theorem zF.kept{f:Nat->Prop}(h:zF w i c ep m)(a:zi f w w')(hn:∀k,zt w i k->¬f k)(b:¬f vR):zF w' i c ep m:=by
 obtain⟨q,txt,ns,h⟩:=h;exact⟨q,txt,ns,h.at_.kept a hn b,h.up,h.dsk,h.e1,h.st,h.tx,h.hist⟩
theorem zF.later(h:zF w i c ep m)(b:Q w.1.size w w'):zF w' i c ep m:=h.kept (f:=fun _=>False) (zi.of_below b) (fun _ _ a=>a) (fun a=>a)
theorem zF.foot_lt(h:zF w i c ep m):∀k,zt w i k->k<w.1.size:=by obtain⟨q,txt,ns,h⟩:=h;exact h.at_.foot_lt
theorem zF.tn(h:zF w i c ep m):∀k,zt w i k->k≠vR:=by obtain⟨q,txt,ns,h⟩:=h;exact h.at_.tn
theorem zF.below(h:zF w i c ep m)(a:Q w.1.size w w'):Kx i w w':=Kx.below a h.dlt
def zlv(t:TypeId):Bool:=t==94||t==155||t==80||t==171||t==216||t==111||t==113
theorem zO.tagQ(h:zO w i c ep m q){t:TypeId}(o:w.1[k]?=J (.cells cs t fr))(r:zlv t=false):¬zt w i k:=fun v=>by
 unfold zlv at r;simp only[Bool.or_eq_false_iff,beq_eq_false_iff_ne]at r;obtain⟨⟨⟨⟨⟨⟨y,t2⟩,t3⟩,t4⟩,t5⟩,z⟩,A⟩:=r;obtain⟨fs,s⟩:=h.jrn;have p:¬Zz i k:=fun e=>by
  rcases h.otag k e with⟨l,x,n,f,g⟩|⟨es,cl,u⟩
  ·have b:=Z6 o f;rcases g with a|a|a|a
   ·exact y (b.trans a)
   ·exact t2 (b.trans a)
   ·exact t3 (b.trans a)
   ·exact t4 (b.trans a)
  ·rw[o]at u;cases u
 have hn:¬Zt i.j i.d fs k:=fun e=>by
  obtain⟨l,x,n,f,g⟩:=s.tag k e;have b:=Z6 o f;rcases g with a|a|a
  ·exact t5 (b.trans a)
  ·exact z (b.trans a)
  ·exact A (b.trans a)
 rcases v with(e|e|e|e|e)|e
 ·exact p (.inl e)
 ·exact p (.inr (.inl e))
 ·exact p (.inr (.inr e))
 ·exact hn (.inl e)
 ·exact hn (.inr (.inl e))
 ·exact hn (.inr (.inr (s.fsB▸e)))
theorem zF.tag(h:zF w i c ep m){t:TypeId}(a:w.1[k]?=J (.cells cs t fr))(b:zlv t=false):¬zt w i k:=by
 obtain⟨q,txt,ns,h⟩:=h;exact h.at_.tagQ a b
theorem YR.dok(h:YR w i c ep m q txt ns):DOk q.S 400000000000:=by
 rw[h.dsk];have a:=h.tx;have b:=h.st;have d:=h.e1;exact zmG (by omega) (by omega) (by omega)
theorem YR.lens(h:YR w i c ep m q txt ns)(a:c.ok):m.L.length<=400/\m.Gl.length<=2000020:=⟨(h.hist.sok a).ok.seg.len400 a,(h.hist.sok a).gl a⟩
theorem YR.lay(h:YR w i c ep m q txt ns)(rec:ByteArray):yR q.S rec=true:=by rw[h.dsk];exact(zmU _ _ _).2
theorem YR.after(h:YR w i c ep m q txt ns)(j:c.ok)(y:XK c ep m ns m' ns')(l:∀x∈xs,okX x)(o:∀x∈xs,okN x)(k:(xs.map (·.1)).Nodup)(n:xs.length<=1000)(hn:m'.now=now)(r:m'.L=(m.took now xs).L)(p:m'.Gl=(m.took now xs).Gl){q':JM}(v:YO (m.took now xs) q q' now xs)(t:zO w' i c ep m' q'):zF w' i c ep m':=by
 subst hn;have b:ki c ep m' ns' (txt++(xm m'.now xs++nl)):=.laid m ns txt m' ns' xs h.hist y l r p o k n;have g:=b.sok j;have e:=(zmU ep.toNat txt (xm m'.now xs)).1;have z:=h.st;rcases v with⟨d,rfl⟩|⟨d,ys,f,rfl⟩
 ·refine⟨_,_,_,t,h.up,?_,h.e1,h.st,?_,b⟩
  ·show Qa q.S (xm m'.now xs)=_;rw[h.dsk,e]
  ·show((txt++(xm m'.now xs++nl)).size:Int)<=2*q.st+4096;unfold Vn at d;rw[h.dsk,e,zoG]at d;have:=of_decide_eq_false d;omega
 ·rw[<-r,<-p]at f;obtain⟨r1,_,r3⟩:=zjo ep.toNat (txt++(xm m'.now xs++nl)) (xm m'.now ys);have u:=g.ok.now;have s:=kE (now:=m'.now) (xs:=ys) (by unfold xz;omega) (fun x l=>b.okA x (f.mem_iff.1 l));have B:=g.ok.seg.len400 j;have C:=g.gl j;have D:ys.length=m'.L.length+m'.Gl.length:=by rw[f.length_eq];unfold yJ;rw[List.length_append,List.length_map]
  have A:(xm m'.now ys).size<=1000000000:=by rw[yZ];omega
  have a:(zpY (jT q (xm m'.now xs)) (xm m'.now ys)).st=(xm m'.now ys).size+1:=by
   show Vu (Qa q.S (xm m'.now xs)) (xm m'.now ys) q.st=_;unfold Vu;rw[h.dsk,e,r3];rfl
  refine⟨_,_,_,t,h.up,?_,h.e1,?_,?_,ki.anew m' ns' _ ys b f⟩
  ·show Xj (Qa q.S (xm m'.now xs)) (xm m'.now ys)=_;rw[h.dsk,e,r1]
  ·rw[a];omega
  ·rw[a,kQ];omega
theorem YR.quiet(h:YR w i c ep m q txt ns)(j:XK c ep m ns m' ns')(hn:m'.now=m.now)(g:m'.L=m.L)(f:m'.Gl=m.Gl)(l:xK false w' i c ep m')(k:zi (Zz i) w w'):zF w' i c ep m'/\Kx i w w':=by
 have a:xK q.dn w' i c ep m':=by rw[h.up];exact l
 obtain⟨b,d⟩:=h.at_.put a k (fun _ e=>e);exact⟨⟨q,txt,ns',b,h.up,h.dsk,h.e1,h.st,h.tx,.quiet m ns txt m' ns' h.hist j hn g f⟩,d⟩
end
theorem Xd(kind:Int)(s:Sg):∀(l:List Tk) (t:Tk),(∀x∈l,¬(x.kind=kind/\x.s=s))->l.foldl (kV kind s) t=t
 |[],t,_=>rfl
 |x::l,t,h=>by
  rw[List.foldl_cons];have e:kV kind s t x=t:=by unfold kV;rw[if_neg (h x (by simp))]
  rw[e];exact Xd kind s l t (fun y a=>h y (by simp[a]))
theorem XV(kind:Int)(s:Sg)(x:Tk)(c:x.kind=kind/\x.s=s):∀(l:List Tk) (t:Tk),(∀y∈l,y.kind=kind/\y.s=s->y=x)->(t=x\/x∈l)->l.foldl (kV kind s) t=x
 |[],t,_,h=>by
  rcases h with h|h
  ·exact h
  ·cases h
 |y::l,t,b,h=>by
  rw[List.foldl_cons];refine XV kind s x c l _ (fun z d=>b z (by simp[d])) ?_;by_cases a:y.kind=kind/\y.s=s
  ·have e:kV kind s t y=y:=(by unfold kV;rw[if_pos a]);exact .inl (e.trans (b y (by simp) a))
  ·have e:kV kind s t y=t:=(by unfold kV;rw[if_neg a]);rw[e];rcases h with h|h
   ·exact .inl h
   ·rcases List.mem_cons.1 h with h|h
    ·exact absurd (h▸c) a
    ·exact .inr h
section
variable {c:Cf} {ep:Int} {m:MS} {r:RM}
theorem zdO(f:MOk c ep m)(j:xG m.TL m.QL r.td)(k:zE m.TL ⟨kind,s⟩=J x):yH r kind s=kh m.QL x:=by
 have h:=zA k;have g:(⟨kind,s⟩:Jk)=x.key:=(f.td _ h).key;unfold Tsk.key at g;injection g with b d;unfold yH;refine XV kind s (kh m.QL x) ⟨b.symm,d.symm⟩ _ _ (fun y n e=>?_) (.inr ((j.mem _).2 ⟨_,h,rfl⟩));obtain⟨q,i,rfl⟩:=(j.mem y).1 n;have l:q.1=⟨kind,s⟩:=by
  rw[(f.td q i).key];unfold Tsk.key;rw[show q.2.kd=kind from e.1,show q.2.s=s from e.2]
 have a:zE m.TL q.1=J q.2:=xt f.nt i;rw[l,k]at a;injection a with a;rw[a]
theorem Vc(d:MOk c ep m)(n:xG m.TL m.QL r.td)(hn:r.now=m.now){b:Bool}(i:zE m.TL ⟨(⟨b,s,m.now,0,0⟩:Tsk).kd,s⟩=E):yH r (⟨b,s,m.now,0,0⟩:Tsk).kd s=kh m.QL ⟨b,s,m.now,0,0⟩:=by
 have f:∀q∈m.QL,q.2.job≠(⟨b,s,m.now,0,0⟩:Tsk).key:=fun q a e=>by
  obtain⟨y,g,-⟩:=(d.leas q a).job;rw[e]at g;have:zE m.TL (⟨b,s,m.now,0,0⟩:Tsk).key=E:=i;rw[this]at g;cases g
 unfold yH;rw[Xd]
 ·unfold zpZ kh;rw[Zu f,hn]
 ·intro k l e;obtain⟨q,a,rfl⟩:=(n.mem k).1 l;have j:q.1=⟨(⟨b,s,m.now,0,0⟩:Tsk).kd,s⟩:=by
   rw[(d.td q a).key];unfold Tsk.key;rw[show q.2.kd=_ from e.1,show q.2.s=s from e.2]
  have h:zE m.TL q.1=J q.2:=xt d.nt a;rw[j,i]at h;cases h
end
section
variable {c:Cf} {ep:Int} {m:MS} {r:RM}
theorem Yd(a:MOk c ep m)(g:xG m.TL m.QL r.td)(hn:r.now=m.now)(j:xB c m TL')(k:zE TL' ⟨kind,s⟩=J x):yH r kind s=kh m.QL x:=by
 obtain⟨Bs,-,-,i⟩:=j.get a.nt;rcases(i _ x).1 k with h|⟨h,s',-,⟨-,e,rfl⟩|⟨-,e,rfl⟩⟩
 ·exact zdO a g h
 ·injection e with d f;subst d f;exact Vc (b:=true) a g hn h
 ·injection e with d f;subst d f;exact Vc (b:=false) a g hn h
theorem zdJ(w:c.ok)(x:c.fits)(n:MOk c ep m)(v:xG m.TL m.QL r.td)(hn:r.now=m.now)(o:xB c m TL')(u:∀kind s,(kind=1\/kind=2)->s∈xd r.c r.nu->(vD r kind s (xd r.c r.nu)=true↔(⟨kind,s⟩:Jk)∈zk TL'))(h:∀k∈zk TL',k.s∈xd r.c r.nu):xG TL' m.QL r.settled.td:=by
 have g:=(n.post w x o).1;have t:∀p∈TL',p.1=p.2.key:=fun p a=>(g.td p a).key;have f:(zk TL').Nodup:=g.nt;refine xG.of_settled t f (fun p a=>?_) (fun k l=>?_)
 ·have j:zE TL' p.1=J p.2:=xt f a;have d:p.1.kd=1\/p.1.kd=2:=by
   rw[t p a];show p.2.kd=1\/p.2.kd=2;unfold Tsk.kd;split<;>simp
  have b:p.1∈zk TL':=List.mem_map.2 ⟨p,a,rfl⟩;have i:=h _ b;rw[(ZE r).2];exact⟨p.1.s,i,p.1.kd,d,(u _ _ d i).2 b,(Yd n v hn o j).symm⟩
 ·obtain⟨s,i,kind,d,q,rfl⟩:=((ZE r).2 k).1 l;have b:=(u kind s d i).1 q;obtain⟨p,a,e⟩:=List.mem_map.1 b;have j:zE TL' ⟨kind,s⟩=J p.2:=by rw[<-e];exact xt f a
  exact⟨p,a,Yd n v hn o j⟩
end
end Go.Proofs.YtndhpgciopcncaaGreatDoor
