import Derived.Test.YtndhpgciopcncaaGreatDoorHStp3
import Derived.StillTactics
open Go.RowKit.Below renaming refl → J
open Option renaming some → E
open Nat renaming le_trans → Q
open Nat renaming le_refl → A
open Go renaming World → D
open Go.Value (int)
open Go.IntKind (i32)
set_option linter.unusedVariables false
set_option maxRecDepth 20000
set_option maxHeartbeats 8000000
open Go.Proofs.Tryz
namespace Go.Proofs.YtndhpgciopcncaaGreatDoor
open Go.RowKit Go.Maps Go.Shelf
variable {P:Bool->D->Prop} {t0:ByteArray} {c:Cf} {ep sn:Int} {us:List Int} {nh ns:List Nm} {ks:List Tok} {m:MS} {B d k p:Nat} {s:Shp} {w:D} {Mp:D->Prop}
theorem znr(h:zJ w B s c Mp sn ns ks us)(L:c.ok)(f:Nat->Prop)(M:∀k,f k->k<w.1.size)(R:Addr->D->D->Prop)(G:∀b g,Below w.1.size w b->(∀w',zi f b w'->TS w' (E (U g 0)) c.n c.F c.W c.K)->Calls prog 29 #[(cZz c (E (U g 0)) c.n),(O d)] b fun e w5=>∃x,e=.returned (.tuple #[.pointer (E x),I 0])/\R x b w5):
  Calls prog 22 #[(O s.p),(O d)] w fun e w'=>∃x b,e=.returned (.pointer (E x))/\Below w.1.size w b/\R x b w':=by
 obtain⟨ca,P,y⟩:=zR h.crow;have i:=h.crow;have j:=h.head;rw[y]at i j;obtain⟨-,-,Z,c3,c4,c5,c6,c7,c8,-⟩:=zc j;have pl:=zd j;obtain⟨S,V,z,_⟩:=i.form L.n1;cases z;have l:=fun W (Y:Below w.1.size w W)=>ze (VI c L (E (U S 0)) P W (TS.of_owns (xp i Y)));have q:=l w (J _ _);have r:=l w.drew (J _ _).drew;have u:=ze G;have N:=ze M;clear h i j l G M;go_enter func22,ntmps22;go_wp2_with(first
  |(go_at_call 30;(first|(with_reducible refine(ud q).mono ?_)|(with_reducible refine(ud r).mono ?_));rintro e b ⟨T,rfl,o,a⟩;have m:Below w.1.size w b:=⟨a.os,a.tape,a.output,a.size,a.block⟩;have v:=ze (ud u b T m (fun w' C=>TS.of_owns (zh o C (fun k C e=>by have X:=(o.lt k C).1;have h2:=ud N k e;have h3:w.1.size<=k:=X;omega))));have t:=ze m;clear m a o)
  |(go_at_call 29;refine(ud v).mono ?_;rintro e w5 ⟨x,rfl,H⟩;have HR:=ze H;clear H))
 go_ret;exact⟨x,b,rfl,ud t,ud HR⟩
def zng(c:Cf)(m:MS)(d ep:Nat)(fs:Value)(W:D)(e:Ending)(w':D):Prop:=∃(i:Ids) (m2:MS) (ys:List SX),e=.returned (O i.x)/\i.d=d/\zF w' i c ep m2/\m2.now=m.now/\qk (m2.Gl,m2.L) (m.Gl,m.L)/\xB c {m2 with TL:=[]} m2.TL/\ys.Perm (yJ m.L m.Gl)/\(∃a,Yt w' d (jS ep (xm m.now ys++nl)) a/\∀k,foot d a k->zt w' i k)/\zi (foot d fs) W w'/\∀k,zt w' i k->foot d fs k\/W.1.size<=k
theorem qk.all{m2:MS}(h:qk (m2.Gl,m2.L) (m.Gl,m.L)):(yJ m2.L m2.Gl).Perm (yJ m.L m.Gl):=by
 unfold yJ;exact(h.perm.1).append ((h.perm.2).map _)
theorem VE{W:D}{ep:Nat}(h:zJ W B s c Mp sn ns ks us)(X:qd c.s c.le c.la c.wi c.ke c.qu c.n c.F c.W c.K=true)(hf:c.fits){S:DS}{fs:Value}{T:List Rw}(C:ki c 1 m nh t0)(hR:VC c m T)(P:(xb T).size<=300000000000)(M:2<=ep/\ep<=1000000000)(hO:zpy S ep (xb T))(I:Yt W d S fs)(hn:∀k,foot d fs k->k≠vR/\k≠zaR)(q:Qo W)(j:Qp W):
  Calls prog 22 #[(O s.p),(O d)] W (zng c m d ep fs W):=by
 have H:=ja X;have N:∀k,foot d fs k->k<W.1.size:=fun k b=>by
  rcases b with e|e
  ·rw[e];exact I.lt
  ·obtain⟨Y,l⟩:=zH I.row e;exact zd l
 refine(znr h H (foot d fs) N (fun x r w5=>∃(i:Ids) (m2:MS) (ys:List SX),x=(U i.x 0)/\i.d=d/\zF w5 i c ep m2/\m2.now=m.now/\qk (m2.Gl,m2.L) (m.Gl,m.L)/\xB c {m2 with TL:=[]} m2.TL/\ys.Perm (yJ m.L m.Gl)/\(∃a,Yt w5 d (jS ep (xm m.now ys++nl)) a/\∀k,foot d a k->zt w5 i k)/\zi (foot d fs) r w5/\∀k,zt w5 i k->foot d fs k\/r.1.size<=k) (fun r g f R=>?_)).mono ?_
 ·refine(zgf c H hf X (E (U g 0)) c.n d S fs r (C.sok H) hR C.okA C.okN P M hO (I.later f) R (Za q f) (fun k b=>(hn k b).1) (j.later f) (fun k b=>(hn k b).2)).mono ?_;rintro e w5 ⟨i,m2,ys,a,o,rfl,G,t,u,V,w,y,v,z,Z⟩;refine⟨_,rfl,i,m2,ys,rfl,o,G,t,u,w,y.trans (qk.all u),⟨a,by rw[<-t];exact v,fun k b=>?_⟩,z,Z⟩;rcases b with e|e
  ·exact .inl (.inr (.inr (.inr (.inr (by rw[o];exact e)))))
  ·refine .inr ?_;rw[o];unfold fsB;rw[v.c0];exact e
 ·rintro e w' ⟨x,r,rfl,f,i,m2,ys,rfl,o,G,t,u,V,w,y,v,z⟩;refine⟨i,m2,ys,rfl,o,G,t,u,V,w,y,(zi.of_below f).trans v (fun _ _ h=>h),fun k b=>?_⟩;rcases z k b with e|e
  ·exact .inl e
  ·exact .inr (Q f.size e)
theorem ziM{ys:List SX}(d:c.ok)(f:ki c 1 m nh t0)(g:ys.Perm (yJ m.L m.Gl)):∃a,VC c m a/\(xb a).size<=300000000000/\ki c 1 m nh (xb a)/\zpy (jS 2 (xm m.now ys++nl)) 3 (xb a)/\(xm m.now ys++nl).size<=300000000000:=by
 have i:=ki.anew m nh t0 ys f g;obtain⟨a,e,n⟩:=i.rowsOf d;have h:=f.sok d;have k:=h.ok.now;have j:=kE (now:=m.now) (xs:=ys) (by unfold xz;omega) (fun x o=>f.okA x (g.mem_iff.1 o));have p:=h.ok.seg.len400 d;have q:=h.gl d;have r:ys.length=m.L.length+m.Gl.length:=by rw[g.length_eq];unfold yJ;rw[List.length_append,List.length_map]
 have b:(xm m.now ys++nl).size<=300000000000:=by rw[kQ,yZ];omega
 refine⟨a,n,by rw[<-e];exact b,by rw[<-e];exact i,?_,b⟩;have l:jS 2 (xm m.now ys++nl)=crS 2 (xm m.now ys++nl) []:=rfl;rw[l];exact ziL (N:=0) (.inl rfl) (by omega) (by omega) (by omega) (by rw[e];exact JD a)
def zff(i:Ids)(Mp:D->Prop)(a0 a1 a2 a3 a4 a5 a6 a7:Int):Prop:=∀W,Mp W->Calls prog 15 #[(O i.x)] W (Rz W (.agg #[I a0,I a1,I a2,I a3,I a4,I a5,I a6,I a7]))
theorem zeR(h:zJ w B s c Mp sn ns (Ze ep k) us)(aa:us.length=k)(kd a b v:Int)(i:Nat)(m:i<k)(r:Int)(bc:(k:Int)-1-r=i)(r0:0<=r/\r<k)(PK:∀W:D,Calls prog 31 #[I a,I k] W fun e w'=>e=.returned (I r)/\w'=W)(hj:k<=4398046511104)(aD:kd=5)(u:Int)(hu:us[i]?=E u)(a0 a1 a2 a3 a4 a5 a6 a7:Int)(HS:zff s.i Mp a0 a1 a2 a3 a4 a5 a6 a7)(R:Int->(D->Prop)->Prop)(ar:∀W,Mp W->Calls prog 21 #[(O s.i.x),.agg #[I ep,I ((i:Int)+1)]] W fun e W'=>∃T d b0 b1 b2 b3 b4 b5 b6 b7,e=.returned (I T)/\yQ s.i d/\d W'/\Kx s.i W W'/\zff s.i d b0 b1 b2 b3 b4 b5 b6 b7/\R T d/\((u=0/\T=8/\(b0=a0/\b1=a1/\b2=a2/\b3=a3/\b4=a4/\b5=a5/\b6=a6/\b7=a7))\/(0<u/\T=0/\(b0=a0/\b1=a1/\b2=a2/\b3=a3/\b4=a4/\b5=a5/\b6=a6/\b7=a7)))):
  Calls prog 41 #[(O s.p),.agg (kZz kd a b v)] w fun e w'=>∃q T d,e=.returned (.bool q)/\(q=true↔(T=0\/T=8))/\zJ w' B s c d sn ns (Ze ep k) (us.set i 0)/\KpS w s w' s/\R T d:=by
 have be:B<=w.1.size:=Q h.lo (Nat.le_of_lt h.lt);obtain⟨sp,si,sd,ao,ap,bi,bj⟩:=s;dsimp only at*;obtain⟨r0,r1⟩:=r0;have bd:B<=sp:=h.lo;have ah:=h.mp.dlt h.mill;have C:=h.mp.foot_lt h.mill;have z:=h.dno;dsimp only at ah C z;have ag:Below w.1.size w (w.alloc (.cells (kZz kd a b v) 33)):=(J _ _).alloc (A _) _;have q0:=zq w (.cells (kZz kd a b v) 33);have L:=h.later ag;obtain⟨g,gc,ak,aS,ai,aj⟩:=Qk L.krow (j:=i) (by rw[xP];exact m);obtain⟨n,V,F,aC,aH,aT⟩:=zaD L.urow (j:=i) (by rw[aa];exact m);rw[xP]at ak;rw[aa]at F;dsimp only at ak F;subst ak;subst F;have y:(Ze ep k)[i]'(by rw[xP];exact m)=⟨ep,(i:Int)+1⟩:=(List.getElem?_eq_some_iff.1 (Vd ep k i m)).2;have aB:us[i]'(by rw[aa];exact m)=u:=(List.getElem?_eq_some_iff.1 hu).2;rw[y]at ai aj;rw[aB]at aH;dsimp only at ai aj;have H:=(L.setUnt (g:=n) (cap:=V) (by rw[aa]) i 0).later (J _ _).drew;obtain⟨x0,-,-,-,-,-,-,-,aI,aJ⟩:=L.cells;dsimp only at x0 aI aJ;have xl:=L.lt;dsimp only at xl;obtain⟨o0,o1,-⟩:=zc q0;have ol:=zd q0;have aE:¬n=sp:=zp L.head L.urow (by decide) n rfl;have aW:¬sp=n:=fun e=>aE e.symm;have aF:¬n=g:=fun e=>zU L.urow L.krow (by decide) n rfl (by simp[Value.ownBlock,e]);have aX:¬g=n:=fun e=>aF e.symm;have bb:w.1.size<(w.alloc (.cells (kZz kd a b v) 33)).1.size:=ol;have aG:¬n=w.1.size:=fun e=>by have:=h.foot_lt n (.inr (.inr (.inr (.inr rfl))));omega
 have ad:¬w.1.size=n:=fun e=>aG e.symm;have e1:IntKind.i64.wrap ((k:Int)-1)=(k:Int)-1:=by rw[IntKind.wrap_i64];omega
 have e2:IntKind.i64.wrap ((k:Int)-1-r)=i:=by rw[IntKind.wrap_i64];omega
 have aV:(i:Int)<k:=by omega
 have b8:((k:Int)==0)=false:=by simp;omega
 have ac:=ze (HS _ H.mill);have ab:=ze H;have Q0:=ze q0;have aK:Hid (zi (qo ⟨sp,si,sd,ao,ap,.slice (E (U g 0)) k gc,.slice (E (U n 0)) k V⟩) w ((w.alloc (.cells (kZz kd a b v) 33)).setCell (U n i) (I 0)).drew):=(zg (zi.of_below ag) (.inr (.inr (.inr (.inr rfl))))).drew;have aO:=fun W=>ze (PK W);have au:=fun W hW=>ze (ar W hW);have b9:(kd==5)=true:=by simp[aD]
 clear h L ag q0 H y aB PK HS ar hu aD;go_enter func41,ntmps41;go_wp2_with fail;generalize(w.alloc (.cells (kZz kd a b v) 33))=X at*;refine wp_region_still_lit (by kernel_rfl) (by kernel_rfl) ?_;repeat still_step
 still_call (ud (aO _));repeat still_step
 refine wpStill_nil ?_;go_wp2_with fail;refine(ud ac).mono ?_;rintro e K ⟨rfl,a8⟩;have P:=ze a8;have bh:w.1.size<K.1.size:=Nat.lt_of_lt_of_le ol (Q (Nat.le_of_eq (zgH X n i (I 0)).symm) a8.size);have p0:=(a8.cell (p:=(U w.1.size 0)) (by rw[zgH];exact ol)).trans ((zhE (i:=i) (v:=I 0) ad).trans o0);clear a8 ac;go_wp2_with fail;have o:=((ud ab).later (ud P)).later ((J K.1.size K).alloc (A _) (.cells #[I a0,I a1,I a2,I a3,I a4,I a5,I a6,I a7] 37));have ae:zi (qo ⟨sp,si,sd,ao,ap,.slice (E (U g 0)) k gc,.slice (E (U n 0)) k V⟩) w (K.alloc (.cells #[I a0,I a1,I a2,I a3,I a4,I a5,I a6,I a7] 37)):=((ud aK).trans (zi.of_below (f:=fun _=>False) (ud P)) (fun _ _ e=>e.elim)).alloc _;have af:∀j,zt (K.alloc (.cells #[I a0,I a1,I a2,I a3,I a4,I a5,I a6,I a7] 37)) si j->j<w.1.size:=fun j hj=>C j (zP ae z ah j hj);have aA:=zq K (.cells #[I a0,I a1,I a2,I a3,I a4,I a5,I a6,I a7] 37);have Y:K.1[w.1.size]?=E (.cells (kZz kd a b v) 33 (0,0)):=((ud P).block _ (by rw[zgH];exact ol)).trans ((zcZ ad).trans (ud Q0));have az:=(Below.heap_alloc _ (.cells #[I a0,I a1,I a2,I a3,I a4,I a5,I a6,I a7] 37) _ (zd Y)).trans Y;have ba:¬w.1.size=K.1.size:=by have:=zd Y;omega
 clear o0 o1 p0 x0 aI aJ ai aj aH aT aS aC xl Y P ab;generalize(K.alloc (.cells #[I a0,I a1,I a2,I a3,I a4,I a5,I a6,I a7] 37))=Z at*;generalize bg:K.1.size=wb at*;obtain⟨z0,-,-,-,-,-,-,-,z11,-⟩:=o.cells;dsimp only at z0 z11;obtain⟨gz,aZ,al,aU,t0,t1⟩:=Qk o.krow (j:=i) (by rw[xP];exact m);rw[xP]at al;dsimp only at al;cases al;have y:(Ze ep k)[i]'(by rw[xP];exact m)=⟨ep,(i:Int)+1⟩:=(List.getElem?_eq_some_iff.1 (Vd ep k i m)).2;rw[y]at t0 t1;dsimp only at t0 t1;have zl:=o.lt;dsimp only at zl;have S:=ze o;have aP:=ze (KpS.of (s':=⟨sp,si,sd,ao,ap,.slice (E (U g 0)) k gc,.slice (E (U n 0)) k V⟩) ae z ah rfl (fun _ e=> .inl e));have aR:=ze aA;have aQ:=ze az;have HC:=au Z.drew (o.later (J _ _).drew).mill;have aM:=ze (fun e=>by have:=af _ e;omega:¬zt Z si wb);have aN:=ze (fun e=>by have:=af _ e;omega:¬zt Z si w.1.size);clear o ae aA az y au af C;refine qH 11 (by kernel_rfl) (by kernel_rfl) ?_;simp only[List.take_succ_cons,List.take_zero,List.drop_succ_cons,List.drop_zero];repeat still_step
 refine wpStill_nil ?_;go_wp2_with(first
  |(go_at_call 21;refine(ud HC).mono ?_;rintro e V2 ⟨T,d,b0,b1,b2,b3,b4,b5,b6,b7,rfl,hP,hM,hK,hS,hR,a9⟩;have G:Kx si Z V2:=(Kx.below (J _ _).drew ((ud S).mp.dlt (ud S).mill)).trans hK;have t:=(ud S).putMill hP hM G;have s0:=(t.cells).1;dsimp only at s0;have sl:=t.lt;dsimp only at sl;have ay:=ze (G.kept.heap (ud aR) (ud aM));have av:=ze (G.kept.heap (ud aQ) (ud aN));have ax:=ze (hS _ t.mill);have N:=ze t;have aq:=ze ((ud aP).trans ((ud S).kpM G));have aw:=ze hR;have aL:=ze a9;clear hM hK G t hP hR hS a9)
  |(go_at_call 15;refine(ud ax).mono ?_;rintro e V3 ⟨rfl,l⟩;have an:=(l.block _ (zd (ud ay))).trans (ud ay);have am:=(l.block _ (zd (ud av))).trans (ud av);obtain⟨w0,w1,w2,w3,w4,w5,w6,w7,-⟩:=zc an;have wl:=zd an;obtain⟨p0,-⟩:=zc am;have pl:=zd am;have M:=ze l;clear l an am;have a9:=ud aL;rcases a9 with⟨rfl,rfl,rfl,rfl,rfl,rfl,rfl,rfl,rfl,rfl⟩|⟨bf,rfl,rfl,rfl,rfl,rfl,rfl,rfl,rfl,rfl⟩))
 ·have aY:decide (0<(0:Int))=false:=by decide
  go_wp2_with fail;go_ret;have l:=(ud M).alloc (ud M).size (.cells #[I b0,I b1,I b2,I b3,I b4,I b5,I b6,I b7] 37);exact⟨_,8,d,rfl,by simp,(ud N).later l,(ud aq).trans ((ud N).kpB l),ud aw⟩
 ·go_wp2_with fail;go_ret;have l:=(ud M).alloc (ud M).size (.cells #[I b0,I b1,I b2,I b3,I b4,I b5,I b6,I b7] 37);exact⟨_,0,d,rfl,by simp,(ud N).later l,(ud aq).trans ((ud N).kpB l),ud aw⟩
theorem znc(h:zJ w B s c Mp sn ns ks us)(hc:c.ok)(kd a b v:Int)(ha: -9223372036854775808<=a/\a<=9223372036854775807)(hbb: -9223372036854775808<=b/\b<=9223372036854775807)(aD:0<=sn/\sn<=100000)(aJ:ns.length<4398046511104)(R:Int->(D->Prop)->Prop)(HI:∀W,Mp W->Calls prog 27 #[(O s.i.x),I (pkV a 4),I (Yn c sn b),int i32 v] W fun e W'=>∃L o,e=.returned (I L)/\yQ s.i o/\o W'/\Kx s.i W W'/\R L o):
  Calls prog 39 #[(O s.p),.agg (kZz kd a b v)] w fun e w'=>∃r L o s',e=.returned (.bool r)/\(r=true↔L=0\/L=4)/\zJ w' B s' c o sn (if L=0 then ns++[⟨pkV a 4,Yn c sn b,v⟩]else ns) ks us/\s'.p=s.p/\s'.i=s.i/\KpS w s w' s'/\R L o:=by
 have au:B<=w.1.size:=Q h.lo (Nat.le_of_lt h.lt);obtain⟨sp,si,sd,aO,aQ,aP,aR⟩:=s;dsimp only at*;obtain⟨na,nc,ar⟩:=zR h.nrow;dsimp only at ar;subst ar;have aM:B<=sp:=h.lo;have aG:=hc.la;obtain⟨a1,b1,P1⟩:=yt a 4 ha (by omega);obtain⟨a2,b2,P2⟩:=yt b (c.la+1) hbb (by omega);have al:=ze (show Yn c sn b=if sn-pkV b (c.la+1)<0 then 0 else sn-pkV b (c.la+1)from rfl)
 generalize pkV a 4=r1 at*;generalize pkV b (c.la+1)=r2 at*;generalize Yn c sn b=tm at*;have a8:=fun W hW=>ze (HI W hW);have am:=fun W=>ze (P1 W);have an:=fun W=>ze (P2 W);have a9:Below w.1.size w (w.alloc (.cells (kZz kd a b v) 33)):=(J _ _).alloc (A _) _;have q0:=zq w (.cells (kZz kd a b v) 33);have hX:=h.later a9;obtain⟨-,-,-,c4,-,-,c9,-,-,-⟩:=hX.cells;dsimp only at c4 c9;obtain⟨-,o1,o2,o3,-⟩:=zc q0;have ol:=zd q0;have pl:=hX.lt;dsimp only at pl;have e1:IntKind.i64.wrap (c.la+1)=c.la+1:=by rw[IntKind.wrap_i64];omega
 have e2:IntKind.i64.wrap (sn-r2)=sn-r2:=by rw[IntKind.wrap_i64];omega
 have HX:=ze hX;have ak:=ze (h.kpB a9);have aF:w.1.size<=(w.alloc (.cells (kZz kd a b v) 33)).1.size:=a9.size;clear h hX a9 q0 P1 P2 HI;go_enter func39,ntmps39;go_wp2_with fail;generalize(w.alloc (.cells (kZz kd a b v) 33))=X at*;rename_i K1 hK1;refine(fun ao:K1 ?aa ?ww=>?main) ?hc;case main=>
  go_region_held3 (fun w'=>w'.cell? (U w.1.size 1)=E (I a)/\w'.cell? (U w.1.size 2)=E (I b)/\w'.cell? (U w.1.size 3)=E (int i32 v)/\w'.cell? (U sp 9)=E (I sn)/\w'.cell? (U sp 4)=E (I c.la)) (go_keep) (first
   |(go_at_call 31;(first|(with_reducible refine(ud (am _)).mono ?_)|(with_reducible refine(ud (an _)).mono ?_));rintro e W ⟨rfl,hw⟩;subst hw))
  all_goals exact ao
 case hc=>
  refine hK1 _ _ ?_;clear hK1 am an o1 o2 o3 c4 c9;have nx:=zq X (.cells #[I r1,I (sn-r2),int i32 v] 87);have S:Below X.1.size X (X.alloc (.cells #[I r1,I (sn-r2),int i32 v] 87)).drew:=((J _ _).alloc (A _) _).drew;have N:(X.alloc (.cells #[I r1,I (sn-r2),int i32 v] 87)).drew.1[X.1.size]?=E (.cells #[I r1,I (sn-r2),int i32 v] 87 (0,0)):=nx;have P:=(ud HX).later S;have ae:=(ud ak).trans ((ud HX).kpB S);have a7:¬zt (X.alloc (.cells #[I r1,I (sn-r2),int i32 v] 87)).drew si X.1.size:=fun e=>by
   have h9:=(ud HX).mp.foot_lt (ud HX).mill _ (zP (f:=fun _=>False) (zi.of_below S) (fun e=>e) ((ud HX).mp.dlt (ud HX).mill) _ e);omega
  have aL:¬X.1.size=sp:=by omega
  have aE:¬sp=X.1.size:=by omega
  obtain⟨-,aH,-⟩:=zc N;have aI:=fun j=>zw N j;have aK:=zd N;have ay:=(ud HX).foot_lt;have aN:=(ud HX).tb;have ax:=(ud HX).mp.dlt (ud HX).mill;dsimp only at ax;have av:=ze S;generalize(X.alloc (.cells #[I r1,I (sn-r2),int i32 v] 87)).drew=Z at*;generalize az:X.1.size=nb at*;by_cases a6:sn-r2<0
  ·have ag:tm=0:=(by have h9:=ud al;rw[if_pos a6]at h9;exact h9);subst ag;have af:=Qy Z nb 1 (I 0);have K:Hid ((Z.setCell (U nb 1) (I 0)).1[nb]?=E (.cells #[I r1,I 0,int i32 v] 87 (0,0))):=xD (i:=1) N (I 0);have g:=ze (P.kept af (fun q hq e=>by have:=ay q hq;omega) (fun q hq e=>a7 (e▸hq)) (fun e=>by have e9:vR=nb:=e;omega));have ad:=ze (fun e=>a7 (zP af (fun e=>by have e9:si.d=nb:=e;omega) (P.mp.dlt P.mill) _ e):¬zt (Z.setCell (U nb 1) (I 0)) si nb);have T:=ze ((ud ak).trans ((ud HX).kpB (w':=Z.setCell (U nb 1) (I 0)) (by rw[az];exact(ud av).setCell (p:=(U nb 1)) (A _) (I 0))));clear nx S N P ae af a7;go_wp2_with fail;generalize(Z.setCell (U nb 1) (I 0))=Y at*;obtain⟨y0,-,-,-,-,-,-,ai,-,-⟩:=(ud g).cells;dsimp only at y0 ai;obtain⟨n0,n1,n2,-⟩:=zc (ud K);have nl:=zd (ud K);have yl:=(ud g).lt;dsimp only at yl;have aB:w.1.size<=Y.1.size:=(ud T).kept.size;have ac:=a8 Y.drew ((ud g).later (J _ _).drew).mill;clear a8;refine qH 10 (by kernel_rfl) (by kernel_rfl) ?_;simp only[List.take_succ_cons,List.take_zero,List.drop_succ_cons,List.drop_zero];repeat still_step
   refine wpStill_nil ?_;go_wp2_with(first|(go_at_call 27;refine(ud ac).mono ?_;rintro e V ⟨L,o,rfl,hP,hM,hK,hR⟩;have z:Kx si Y V:=(Kx.below (J _ _).drew ((ud g).mp.dlt (ud g).mill)).trans hK;have t:=(ud g).putMill hP hM z;have aj:=(t.cells).2.2.2.2.2.2.2.1;dsimp only at aj;have u:=z.kept.heap (ud K) (ud ad);obtain⟨m0,m1,m2,-⟩:=zc u;have aC:=zd u;have vl:=t.lt;dsimp only at vl;have vf:=fun j=>zw t.head j;dsimp only at vf;have n:=ze t;have H:=ze ((ud T).trans ((ud g).kpM z));have a4:=ze hR;have ah:w.1.size<=V.1.size:=(ud H).kept.size;clear hM hK z t u hP hR;by_cases y:L=0))
   ·subst y;have F:=ze ((ud n).nrow);go_wp2_with fail;go_region_law (refine vI rfl (.tmp 48) (.tmp 50) 40 87 3 24 rfl underlying40 zbz rfl (by decide) B (.slice na ns.length nc) ns.length (ns.flatMap nmV) (by simp[Act.eval]) (jJ ((ud F).alloc _)) V.1.size [I r1,I (0),int i32 v] 87 (0,0) (by simp[Act.eval]) (jI V _) rfl (by simp[Value.oneCell']) ?h63 ?hby ?hbs ?_;(case h63=>(simp only[maxLen];omega));(case hby=>omega);(case hbs=>exact Q (Q au ah) (vS _ _));intro g3 G w5 m l a5 aq;have M:zi (fun k'=>(Value.slice na ns.length nc).ownBlock=E k') V w5:=zi.grown ((zi.refl _ _).alloc _) (vG l) (fun k hk _=>hk);have C:=M.heap ((ud n).head) (fun e=>zp (ud n).head (ud F) (by decide) _ e rfl);obtain⟨-,-,-,-,-,-,-,-,-,-,aw,-⟩:=zc C;have df:=fun j=>zw C j;have dl:=zd C;dsimp only at df dl;have a3:=ze m;have a0:=ze M;have ab:=ze a5;clear m M C l a5)
    all_goals
     go_wp2_with fail
     go_ret
     have m:w5.ownsRow B 87 3 (.slice (E (U g3 0)) (ns.length+1) G) (ns++[(⟨r1,0,v⟩:Nm)]).length ((ns++[(⟨r1,0,v⟩:Nm)]).flatMap nmV):=by
      rw[List.length_append,List.flatMap_append];exact ud a3
     have hz:∀q,(Value.slice (E (U g3 0)) (ns.length+1) G).ownBlock=E q->(Value.slice na ns.length nc).ownBlock=E q\/V.1.size<=q:=fun q hq=>by
      have e:g3=q:=(by simpa[Value.ownBlock]using hq);subst e;rcases ud ab with h|h
      ·exact .inl h
      ·right;rw[h];exact vS _ _
     refine .inr ⟨rfl,.inl ⟨o,_,?_,rfl,rfl,(ud H).trans ((ud n).kpNums (ud a0) hz),ud a4⟩⟩
     exact(ud n).setNums (ud a0) m hz
   ·have ap:decide (L=0)=false:=(by simpa using y);go_wp2_with fail;go_ret;exact⟨_,L,o,_,rfl,by simp[y],by rw[if_neg y];exact ud n,rfl,rfl,ud H,ud a4⟩
  ·have ag:tm=sn-r2:=(by have h9:=ud al;rw[if_neg a6]at h9;exact h9);subst ag;have aA:decide (sn-r2<0)=false:=(by simpa using a6);have K:=ze N;have g:=ze P;have ad:=ze a7;have T:=ze ae;clear nx S N P ae a7;go_wp2_with fail;generalize Z=Y at*;obtain⟨y0,-,-,-,-,-,-,ai,-,-⟩:=(ud g).cells;dsimp only at y0 ai;obtain⟨n0,n1,n2,-⟩:=zc (ud K);have nl:=zd (ud K);have yl:=(ud g).lt;dsimp only at yl;have aB:w.1.size<=Y.1.size:=(ud T).kept.size;have ac:=a8 Y.drew ((ud g).later (J _ _).drew).mill;clear a8;refine qH 10 (by kernel_rfl) (by kernel_rfl) ?_;simp only[List.take_succ_cons,List.take_zero,List.drop_succ_cons,List.drop_zero];repeat still_step
   refine wpStill_nil ?_;go_wp2_with(first|(go_at_call 27;refine(ud ac).mono ?_;rintro e V ⟨L,o,rfl,hP,hM,hK,hR⟩;have z:Kx si Y V:=(Kx.below (J _ _).drew ((ud g).mp.dlt (ud g).mill)).trans hK;have t:=(ud g).putMill hP hM z;have aj:=(t.cells).2.2.2.2.2.2.2.1;dsimp only at aj;have u:=z.kept.heap (ud K) (ud ad);obtain⟨m0,m1,m2,-⟩:=zc u;have aC:=zd u;have vl:=t.lt;dsimp only at vl;have vf:=fun j=>zw t.head j;dsimp only at vf;have n:=ze t;have H:=ze ((ud T).trans ((ud g).kpM z));have a4:=ze hR;have ah:w.1.size<=V.1.size:=(ud H).kept.size;clear hM hK z t u hP hR;by_cases y:L=0))
   ·subst y;have F:=ze ((ud n).nrow);go_wp2_with fail;go_region_law (refine vI rfl (.tmp 48) (.tmp 50) 40 87 3 24 rfl underlying40 zbz rfl (by decide) B (.slice na ns.length nc) ns.length (ns.flatMap nmV) (by simp[Act.eval]) (jJ ((ud F).alloc _)) V.1.size [I r1,I (sn-r2),int i32 v] 87 (0,0) (by simp[Act.eval]) (jI V _) rfl (by simp[Value.oneCell']) ?h63 ?hby ?hbs ?_;(case h63=>(simp only[maxLen];omega));(case hby=>omega);(case hbs=>exact Q (Q au ah) (vS _ _));intro g3 G w5 m l a5 aq;have M:zi (fun k'=>(Value.slice na ns.length nc).ownBlock=E k') V w5:=zi.grown ((zi.refl _ _).alloc _) (vG l) (fun k hk _=>hk);have C:=M.heap ((ud n).head) (fun e=>zp (ud n).head (ud F) (by decide) _ e rfl);obtain⟨-,-,-,-,-,-,-,-,-,-,aw,-⟩:=zc C;have df:=fun j=>zw C j;have dl:=zd C;dsimp only at df dl;have a3:=ze m;have a0:=ze M;have ab:=ze a5;clear m M C l a5)
    all_goals
     go_wp2_with fail
     go_ret
     have m:w5.ownsRow B 87 3 (.slice (E (U g3 0)) (ns.length+1) G) (ns++[(⟨r1,sn-r2,v⟩:Nm)]).length ((ns++[(⟨r1,sn-r2,v⟩:Nm)]).flatMap nmV):=by
      rw[List.length_append,List.flatMap_append];exact ud a3
     have hz:∀q,(Value.slice (E (U g3 0)) (ns.length+1) G).ownBlock=E q->(Value.slice na ns.length nc).ownBlock=E q\/V.1.size<=q:=fun q hq=>by
      have e:g3=q:=(by simpa[Value.ownBlock]using hq);subst e;rcases ud ab with h|h
      ·exact .inl h
      ·right;rw[h];exact vS _ _
     refine .inr ⟨rfl,.inl ⟨o,_,?_,rfl,rfl,(ud H).trans ((ud n).kpNums (ud a0) hz),ud a4⟩⟩
     exact(ud n).setNums (ud a0) m hz
   ·have ap:decide (L=0)=false:=(by simpa using y);go_wp2_with fail;go_ret;exact⟨_,L,o,_,rfl,by simp[y],by rw[if_neg y];exact ud n,rfl,rfl,ud H,ud a4⟩
theorem zlV(h:zJ w B s c Mp sn ns (Ze ep 0) us)(kd a b v:Int):
  Calls prog 41 #[(O s.p),.agg (kZz kd a b v)] w fun e w'=>e=.returned (.bool true)/\zJ w' B s c Mp sn ns (Ze ep 0) us/\KpS w s w' s:=by
 obtain⟨y,x,u,l,n,m,o⟩:=s;dsimp only at*;obtain⟨r,t,f⟩:=zR h.krow;rw[xP]at f;dsimp only at f;subst f;have d:Below w.1.size w (w.alloc (.cells (kZz kd a b v) 33)):=(J _ _).alloc (A _) _;have g:=h.later d;obtain⟨-,-,-,-,-,-,-,-,i,-⟩:=g.cells;dsimp only at i;have q:=g.lt;dsimp only at q;have k:=ze g;have j:=ze (h.kpB d);clear h g d;go_enter func41,ntmps41;go_wp2_with fail;go_ret;exact⟨rfl,ud k,ud j⟩
theorem zmk(h:zJ w B s c Mp sn ns ks us)(n:Int)(hn:1<=n/\n<=1000)(t:0<=sn/\sn<=100000)(r:100000<sn+n)(g:Calls prog 26 #[(O s.i.x),I n] w (Rz w (I 5))):
  Calls prog 17 #[(O s.p),I n] w fun e w'=>e=.returned (.bool true)/\zJ w' B s c Mp sn ns ks us/\KpS w s w' s:=by
 obtain⟨L,K,G,v,z,y,C⟩:=s;dsimp only at*;obtain⟨l,-,-,-,-,-,m,-,-,-⟩:=h.cells;dsimp only at l m;have f:=h.lt;dsimp only at f;have b:=ze g;have F:decide (100000<sn+n)=true:=by simpa using r
 have u:IntKind.i64.wrap (sn+n)=sn+n:=by rw[IntKind.wrap_i64];omega
 have H:=ze h;clear h g;go_enter func17,ntmps17;go_wp2_with(first|(go_at_call 26;refine(ud b).mono ?_;rintro e w1 ⟨rfl,d⟩;have a:=(ud H).later d;have o:=(a.cells).2.2.2.2.2.2.1;dsimp only at o;have q:=a.lt;dsimp only at q;have k:=ze a;have j:=ze ((ud H).kpB d);clear a d));go_ret;exact⟨rfl,ud k,ud j⟩
theorem zmc(kd a b v:Int)(c:kd=1)(f:Calls prog 39 #[(O p),.agg (kZz kd a b v)] (w.alloc (.cells (kZz kd a b v) 33)) fun e w'=>∃q,e=.returned (.bool q)/\P q w'):
  Calls prog 13 #[(O p),.agg (kZz kd a b v)] w fun e w'=>∃q,e=.returned (.bool q)/\P q w':=by
 have d:=zq w (.cells (kZz kd a b v) 33);obtain⟨o,r,s,t,-⟩:=zc d;have u:=zd d;clear d;have j:(kd==1)=true:=by subst c;rfl
 have k2:(kd==2)=false:=by subst c;rfl
 have k:(kd==3)=false:=by subst c;rfl
 have l:(kd==4)=false:=by subst c;rfl
 have m:(kd==5)=false:=by subst c;rfl
 have n:(kd==6)=false:=by subst c;rfl
 have h:=ze f;clear c f;go_enter func13,ntmps13;go_wp2_with(first|(go_at_call 39;refine(ud h).mono ?_;rintro e V ⟨q,rfl,g⟩;have i:=ze g;clear g));go_ret;exact⟨q,rfl,ud i⟩
theorem zmd(kd a b v:Int)(n: -9223372036854775808<=a/\a<=9223372036854775807)(c:kd=2)(g:Calls prog 17 #[(O p),I (1+pkV a 1000)] (w.alloc (.cells (kZz kd a b v) 33)) fun e w'=>∃q,e=.returned (.bool q)/\P q w'):
  Calls prog 13 #[(O p),.agg (kZz kd a b v)] w fun e w'=>∃q,e=.returned (.bool q)/\P q w':=by
 have f:=zq w (.cells (kZz kd a b v) 33);obtain⟨B,C,F,G,-⟩:=zc f;have H:=zd f;clear f;have t:(kd==1)=false:=by subst c;rfl
 have k2:(kd==2)=true:=by subst c;rfl
 have u:(kd==3)=false:=by subst c;rfl
 have x:(kd==4)=false:=by subst c;rfl
 have y:(kd==5)=false:=by subst c;rfl
 have z:(kd==6)=false:=by subst c;rfl
 have j:¬kd=1:=by omega
 obtain⟨K,r1,h⟩:=yt a 1000 n (by omega);generalize pkV a 1000=r at*;have d:=fun W=>ze (h W);have s:IntKind.i64.wrap (1+r)=1+r:=by rw[IntKind.wrap_i64];omega
 have k:=ze g;clear c g h;go_enter func13,ntmps13;go_wp2_with(first
  |(go_at_call 31;refine(ud (d _)).mono ?_;rintro e o ⟨rfl,m⟩;subst m)
  |(go_at_call 17;refine(ud k).mono ?_;rintro e V ⟨q,rfl,i⟩;have l:=ze i;clear i))
 go_ret;exact⟨q,rfl,ud l⟩
theorem zme(h:zJ w B s c Mp sn ns (Ze ep k) us)(z:c.ok)(kd a b v:Int)(y: -9223372036854775808<=a/\a<=9223372036854775807)(d:kd=3)(m:Calls prog 40 #[(O s.p),I (pkV a c.s)] (w.alloc (.cells (kZz kd a b v) 33)).drew fun e w'=>∃q,e=.returned (.bool q)/\P q w'):
  Calls prog 13 #[(O s.p),.agg (kZz kd a b v)] w fun e w'=>∃q,e=.returned (.bool q)/\P q w':=by
 have j:=zq w (.cells (kZz kd a b v) 33);obtain⟨R,S,T,U,-⟩:=zc j;have Y:=zd j;clear j;have F:(kd==1)=false:=by subst d;rfl
 have k2:(kd==2)=false:=by subst d;rfl
 have G:(kd==3)=true:=by subst d;rfl
 have H:(kd==4)=false:=by subst d;rfl
 have K:(kd==5)=false:=by subst d;rfl
 have L:(kd==6)=false:=by subst d;rfl
 have t:¬kd=1:=by omega
 have C:=z.sl;have g:=h.later ((J _ _).alloc (A _) (.cells (kZz kd a b v) 33));obtain⟨-,x2,-,-,-,-,-,-,l,-⟩:=g.cells;have xl:=g.lt;obtain⟨M,N,f⟩:=zR g.krow;rw[xP]at f;rw[f]at l;obtain⟨Z,r1,n⟩:=yt a c.s y (by omega);generalize pkV a c.s=r at*;have i:=fun W=>ze (n W);have u:=ze m;generalize s.p=p at*;clear d m n h g f;go_enter func13,ntmps13;go_wp2_with fail;generalize(w.alloc (.cells (kZz kd a b v) 33))=X at*;refine qH 9 (by kernel_rfl) (by kernel_rfl) ?_;simp only[List.take_succ_cons,List.take_zero,List.drop_succ_cons,List.drop_zero];repeat still_step
 still_call (ud (i _));refine wpStill_nil ?_;go_wp2_with(first|(go_at_call 40;refine(ud u).mono ?_;rintro e V ⟨q,rfl,o⟩;have x:=ze o;clear o));go_ret;exact⟨q,rfl,ud x⟩
theorem zmf(kd a b v:Int)(c:kd=4)(f:Calls prog 41 #[(O p),.agg (kZz kd a b v)] (w.alloc (.cells (kZz kd a b v) 33)) fun e w'=>∃q,e=.returned (.bool q)/\P q w'):
  Calls prog 13 #[(O p),.agg (kZz kd a b v)] w fun e w'=>∃q,e=.returned (.bool q)/\P q w':=by
 have d:=zq w (.cells (kZz kd a b v) 33);obtain⟨r,s,t,u,-⟩:=zc d;have x:=zd d;clear d;have k:(kd==1)=false:=by subst c;rfl
 have k2:(kd==2)=false:=by subst c;rfl
 have l:(kd==3)=false:=by subst c;rfl
 have m:(kd==4)=true:=by subst c;rfl
 have n:(kd==5)=false:=by subst c;rfl
 have o:(kd==6)=false:=by subst c;rfl
 have h:¬kd=1:=by omega
 have i:=ze f;clear c f;go_enter func13,ntmps13;go_wp2_with(first|(go_at_call 41;refine(ud i).mono ?_;rintro e V ⟨q,rfl,g⟩;have j:=ze g;clear g));go_ret;exact⟨q,rfl,ud j⟩
theorem zmg(kd a b v:Int)(c:kd=5)(f:Calls prog 41 #[(O p),.agg (kZz kd a b v)] (w.alloc (.cells (kZz kd a b v) 33)) fun e w'=>∃q,e=.returned (.bool q)/\P q w'):
  Calls prog 13 #[(O p),.agg (kZz kd a b v)] w fun e w'=>∃q,e=.returned (.bool q)/\P q w':=by
 have d:=zq w (.cells (kZz kd a b v) 33);obtain⟨r,s,t,u,-⟩:=zc d;have x:=zd d;clear d;have k:(kd==1)=false:=by subst c;rfl
 have k2:(kd==2)=false:=by subst c;rfl
 have l:(kd==3)=false:=by subst c;rfl
 have m:(kd==4)=false:=by subst c;rfl
 have n:(kd==5)=true:=by subst c;rfl
 have o:(kd==6)=false:=by subst c;rfl
 have h:¬kd=1:=by omega
 have i:=ze f;clear c f;go_enter func13,ntmps13;go_wp2_with(first|(go_at_call 41;refine(ud i).mono ?_;rintro e V ⟨q,rfl,g⟩;have j:=ze g;clear g));go_ret;exact⟨q,rfl,ud j⟩
theorem zmh(h:zJ w B s c Mp sn ns (Ze ep k) us)(U:c.ok)(kd a b v:Int)(T: -9223372036854775808<=a/\a<=9223372036854775807)(Z:k<=4398046511104)(d:kd=6)(K:Calls prog 40 #[(O s.p),I (pkV a c.s)] (w.alloc (.cells (kZz kd a b v) 33)).drew fun e w'=>e=.returned (.bool true)/\∃s' l ns' j u,s'.p=s.p/\zJ w' B s' c l sn ns' (Ze ep j) u/\((j=k/\P true w')\/(¬j=k/\Calls prog 41 #[(O s.p),.agg #[I 4,I 0,I 0,int i32 0]] w' fun e w'=>∃q,e=.returned (.bool q)/\P q w'))):
  Calls prog 13 #[(O s.p),.agg (kZz kd a b v)] w fun e w'=>∃q,e=.returned (.bool q)/\P q w':=by
 have F:=zq w (.cells (kZz kd a b v) 33);obtain⟨o0,o1,o2,o3,-⟩:=zc F;have ol:=zd F;clear F;have k1:(kd==1)=false:=by subst d;rfl
 have k2:(kd==2)=false:=by subst d;rfl
 have k3:(kd==3)=false:=by subst d;rfl
 have k4:(kd==4)=false:=by subst d;rfl
 have k5:(kd==5)=false:=by subst d;rfl
 have k6:(kd==6)=true:=by subst d;rfl
 have R:¬kd=1:=by omega
 have Y:=U.sl;have y:=h.later ((J _ _).alloc (A _) (.cells (kZz kd a b v) 33));obtain⟨-,x2,-,-,-,-,-,-,G,-⟩:=y.cells;have xl:=y.lt;obtain⟨ka,kc,g⟩:=zR y.krow;rw[xP]at g;rw[g]at G;obtain⟨r0,r1,L⟩:=yt a c.s T (by omega);generalize pkV a c.s=r at*;have C:=fun W=>ze (L W);have H:=ze K;generalize s.p=p at*;clear d K L h y g;go_enter func13,ntmps13;go_wp2_with fail;generalize(w.alloc (.cells (kZz kd a b v) 33))=X at*;refine qH 9 (by kernel_rfl) (by kernel_rfl) ?_;simp only[List.take_succ_cons,List.take_zero,List.drop_succ_cons,List.drop_zero];repeat still_step
 still_call (ud (C _));refine wpStill_nil ?_;go_wp2_with fail;refine(ud H).mono ?_;rintro e V ⟨rfl,s',l,ns',j,u,t,f,n⟩;have x:=(f.cells).2.2.2.2.2.2.2.2.1;have yl:=f.lt;obtain⟨kb,a1,i⟩:=zR f.krow;rw[xP]at i;rw[i]at x;rw[t]at x yl;clear f i t H;rcases n with⟨o,m⟩|⟨o,M⟩
 ·subst o;have z:=ze m;clear m;go_wp2_with fail;go_ret;exact⟨_,rfl,ud z⟩
 ·have a0:((j:Int)==(k:Int))=false:=by simp;omega
  have N:¬(j:Int)=k:=by omega
  have S:=ze M;clear M;go_wp2_with(first|(go_at_call 41;refine(ud S).mono ?_;rintro e U9 ⟨q,rfl,m⟩;have z:=ze m;clear m));go_ret;exact⟨q,rfl,ud z⟩
theorem zpb{v:Value}(a:us.length=k)(h:w.ownsRow B 3 1 v us.length (us.map (I))):w.ownsRow B 3 1 v k (us.map (I)):=by rw[a]at h;exact h
theorem zoS(h:zJ w B s c Mp sn ns (Ze ep k) us)(aj:us.length=k)(hc:c.ok)(slot:Int)(aA:0<=slot/\slot<c.s)(aq:0<=sn/\sn<=100000)(hj:k<4398046511104)(R:Bool->(D->Prop)->Prop)(HP:Calls prog 18 #[(O s.i.x),I slot] w fun e w'=>∃d,yQ s.i d/\d w'/\Kx s.i w w'/\((e=.returned (.tuple #[zdp,I 6])/\R false d)\/(e=.returned (.tuple #[zdp,I 7])/\R false d)\/∃j0 j1 j2 j3 j4 j5 j6:Int,e=.returned (.tuple #[.agg #[I j0,I j1,I j2,I j3,I j4,I j5,I j6,I ep,I ((k:Int)+1),I slot,I (sn+c.le)],I 0])/\R true d)):
  Calls prog 40 #[(O s.p),I slot] w fun e w'=>∃b d s',e=.returned (.bool true)/\zJ w' B s' c d sn ns (Ze ep (if b=true then k+1 else k)) (if b=true then us++[sn+c.le]else us)/\s'.p=s.p/\s'.i=s.i/\KpS w s w' s'/\R b d:=by
 have av:B<=w.1.size:=Q h.lo (Nat.le_of_lt h.lt);obtain⟨M,si,sd,G,K,aV,aW⟩:=s;dsimp only at*;obtain⟨ka,kc,ag⟩:=zR h.krow;obtain⟨ua,uc,ai⟩:=zR h.urow;rw[xP]at ag;rw[aj]at ai;dsimp only at ag ai;subst ag;subst ai;have aP:B<=M:=h.lo;have ay:=hc.le;have a3:=ze HP;obtain⟨c0,-,-,-,-,-,-,-,-,-⟩:=h.cells;dsimp only at c0;have au:=h.lt;dsimp only at au;have H:=ze h;have aK:(k:Int)<=4398046511104:=by omega
 obtain⟨aN,aO⟩:=aA;obtain⟨aR,aS⟩:=aq;obtain⟨aL,aM⟩:=ay;clear h HP;go_enter func40,ntmps40;go_wp2_with fail;refine(ud a3).mono ?_;rintro e V ⟨d,hP,hM,hK,(⟨rfl,hR⟩|⟨rfl,hR⟩|⟨j0,j1,j2,j3,j4,j5,j6,rfl,hR⟩)⟩
 ·have o:=(ud H).putMill hP hM hK;have a9:=ze ((ud H).kpM hK);have S:=ze hR;clear a3 hP hM hK hR;have W:=ze o;clear o;go_wp2_with fail;go_ret;have a1:=(J V.1.size V).alloc (A _) zkj;exact⟨false,d,_,rfl,(ud W).later a1,rfl,rfl,(ud a9).trans ((ud W).kpB a1),ud S⟩
 ·have o:=(ud H).putMill hP hM hK;have a9:=ze ((ud H).kpM hK);have S:=ze hR;clear a3 hP hM hK hR;have W:=ze o;clear o;go_wp2_with fail;go_ret;have a1:=(J V.1.size V).alloc (A _) zkj;exact⟨false,d,_,rfl,(ud W).later a1,rfl,rfl,(ud a9).trans ((ud W).kpB a1),ud S⟩
 ·clear a3;have S:=ze hR;clear hR;have o:zJ V B ⟨M,si,sd,G,K,.slice ka k kc,.slice ua k uc⟩ c d sn ns (Ze ep k) us:=(ud H).putMill hP hM hK;have hA:=(J V.1.size V).alloc (A _) (.cells #[I j0,I j1,I j2,I j3,I j4,I j5,I j6,I ep,I ((k:Int)+1),I slot,I (sn+c.le)] 51);have am:=o.later hA;have ak:=ze (((ud H).kpM hK).trans (o.kpB hA));have a7:=ze (zq V (.cells #[I j0,I j1,I j2,I j3,I j4,I j5,I j6,I ep,I ((k:Int)+1),I slot,I (sn+c.le)] 51));have ac:=ze am;have aF:M<V.1.size:=o.lt;have ar:¬V.1.size=M:=by omega
  have aE:¬M=V.1.size:=by omega
  clear o am hA hM hK hP c0 au;go_wp2_with fail;generalize(V.alloc (.cells #[I j0,I j1,I j2,I j3,I j4,I j5,I j6,I ep,I ((k:Int)+1),I slot,I (sn+c.le)] 51))=Y at*;generalize aJ:V.1.size=jb at*;go_loopw [7] (fun y wr=>∃(t:Nat),t<=k/\y=I t/\Below Y.1.size Y wr) (fun y _=>k-(intOf y).toNat);case atStart=>exact⟨0,Nat.zero_le _,rfl,J _ _⟩
  case round=>
   obtain⟨t,aQ,rfl,L⟩:=hrel;have v:=(ud ac).later L;have a0:=(L.block _ (zd (ud a7))).trans (ud a7);have ad:=(ud ak).trans ((ud ac).kpB L);obtain⟨-,-,x3,-,-,-,x9,-,aw,a2⟩:=v.cells;dsimp only at x3 x9 aw a2;have xl:=v.lt;dsimp only at xl;have xf:=fun j=>zw v.head j;dsimp only at xf;obtain⟨-,-,-,-,-,-,-,j7,j8,-⟩:=zc a0;have jl:=zd a0;by_cases ah:t<k
   ·have aC:(t:Int)<k:=(by omega);obtain⟨g,gc,ae,aI,an,ao⟩:=Qk v.krow (j:=t) (by rw[xP];exact ah);rw[xP]at ae;dsimp only at ae;cases ae;have z:(Ze ep k)[t]'(by rw[xP];exact ah)=⟨ep,(t:Int)+1⟩:=(List.getElem?_eq_some_iff.1 (Vd ep k t ah)).2;rw[z]at an ao;dsimp only at an ao;have aD:((t:Int)+1==(k:Int)+1)=false:=(by simp;omega);have az:((t:Int)==(k:Int))=false:=(by simp;omega);have N:=ze L;clear v a0 ad L z;go_wp2_with fail;go_still (by kernel_rfl);go_wp2_with fail;go_roundw;case rel=>exact⟨t+1,by omega,by go_num,(ud N).drew⟩
    case measure=>simp[intOf];omega
   ·have aB:decide ((t:Int)<k)=false:=(by simp;omega);have a4:=ze v;have a8:=ze a0;have N:=ze ad;have n:=ze v.krow;clear v a0 ad L ac a7 ak;go_wp2_with fail;rename_i K9 hK9;refine(fun X:∀(Z a:Nat) (T:D),Hid (zJ T B ⟨M,si,sd,G,K,.slice (E (U Z 0)) (k+1) a,.slice ua k uc⟩ c d sn ns (Ze ep (k+1)) us)->Hid (T.1[jb]?=E (.cells #[I j0,I j1,I j2,I j3,I j4,I j5,I j6,I ep,I ((k:Int)+1),I slot,I (sn+c.le)] 51 (0,0)))->Hid (KpS w ⟨M,si,sd,G,K,.slice ka k kc,.slice ua k uc⟩ T ⟨M,si,sd,G,K,.slice (E (U Z 0)) (k+1) a,.slice ua k uc⟩)->K9 ((?aa:Nat->Nat->Act) Z a) T=>?main) ?hc;case main=>
     go_region_law (refine vI rfl (.tmp 48) (.tmp 51) 41 49 2 16 rfl underlying41 ziv rfl (by decide) B (.slice ka k kc) k ((Ze ep k).flatMap zdP) (by simp[Act.eval]) (jJ ((zmw (ud n)).alloc _)) wr.1.size [I ep,I ((k:Int)+1)] 49 (0,0) (by simp[Act.eval]) (jI wr _) rfl (by simp[Value.oneCell']) ?h63 ?hby ?hbs ?_;(case h63=>(simp only[maxLen];omega));(case hby=>omega);(case hbs=>exact Q (Q av (ud N).kept.size) (vS _ _));intro Z a w5 l f z ap;have F:zi (fun k'=>(Value.slice ka k kc).ownBlock=E k') wr w5:=zi.grown ((zi.refl _ _).alloc _) (vG f) (fun k hk _=>hk);have u:=F.heap ((ud a4).head) (fun e=>zp (ud a4).head (ud n) (by decide) _ e rfl);obtain⟨-,-,-,-,-,-,-,-,-,-,-,aG,-⟩:=zc u;have df:=fun j=>zw u j;have dl:=zd u;dsimp only at df dl;have P:=ze l;have C:=ze F;have a6:=ze z;clear l F u f z)
     all_goals
      have r:=ud a4
      have l:w5.ownsRow B 49 2 (.slice (E (U Z 0)) (k+1) a) (Ze ep k++[(⟨ep,(k:Int)+1⟩:Tok)]).length ((Ze ep k++[(⟨ep,(k:Int)+1⟩:Tok)]).flatMap zdP):=by
       rw[List.length_append,xP,List.flatMap_append];exact ud P
      have hz:∀q,(Value.slice (E (U Z 0)) (k+1) a).ownBlock=E q->(Value.slice ka k kc).ownBlock=E q\/wr.1.size<=q:=fun q hq=>by
       have e:Z=q:=(by simpa[Value.ownBlock]using hq);subst e;rcases ud a6 with h|h
       ·exact .inl h
       ·right;rw[h];exact vS _ _
      have a5:=r.setToks (ud C) l hz
      rw[<-zjU]at a5
      have af:=(ud C).heap (ud a8) (fun e=>zp (ud a8) r.krow (by decide) _ e rfl)
      exact X Z a _ (ze a5) (ze ((Qy w5 M 11 _).heap af ar)) (ze ((ud N).trans (r.kpToks (ud C) hz)))
    case hc=>
     intro Z a T HS HJ HB;refine hK9 _ _ ?_;try dsimp only
     clear hK9 a4 a8 N n x3 x9 aw a2 xl xf j7 j8 jl;obtain⟨-,-,x3,-,-,-,x9,-,-,a2⟩:=(ud HS).cells;dsimp only at x3 x9 a2;have xl:=(ud HS).lt;dsimp only at xl;have xf:=fun j=>zw (ud HS).head j;dsimp only at xf;have n:=ze (ud HS).urow;have aT:IntKind.i64.wrap (sn+c.le)=sn+c.le:=(by rw[IntKind.wrap_i64];omega);go_wp2_with fail;rename_i KA hKA;refine(fun X:∀(g4 m:Nat) (T:D),Hid (zJ T B ⟨M,si,sd,G,K,.slice (E (U Z 0)) (k+1) a,.slice (E (U g4 0)) (k+1) m⟩ c d sn ns (Ze ep (k+1)) (us++[sn+c.le]))->Hid (T.1[jb]?=E (.cells #[I j0,I j1,I j2,I j3,I j4,I j5,I j6,I ep,I ((k:Int)+1),I slot,I (sn+c.le)] 51 (0,0)))->Hid (KpS w ⟨M,si,sd,G,K,.slice ka k kc,.slice ua k uc⟩ T ⟨M,si,sd,G,K,.slice (E (U Z 0)) (k+1) a,.slice (E (U g4 0)) (k+1) m⟩)->KA ((?bb:Nat->Nat->Act) g4 m) T=>?main2) ?hc2;case main2=>
      go_region_law (refine vI rfl (.tmp 59) (.tmp 70) 42 3 1 8 rfl underlying42 ziu rfl (by decide) B (.slice ua k uc) k ((us).map (I)) (by simp[Act.eval]) (jJ ((zpb aj (ud n)).alloc _)) T.1.size [I (sn+c.le)] 3 (0,0) (by simp[Act.eval]) (jI T _) rfl (by simp[Value.oneCell']) ?h63 ?hby ?hbs ?_;(case h63=>(simp only[maxLen];omega));(case hby=>omega);(case hbs=>exact Q (Q av (ud HB).kept.size) (vS _ _));intro g4 m w5 l f z ap;have F:zi (fun k'=>(Value.slice ua k uc).ownBlock=E k') T w5:=zi.grown ((zi.refl _ _).alloc _) (vG f) (fun k hk _=>hk);have u:=F.heap ((ud HS).head) (fun e=>zp (ud HS).head (ud n) (by decide) _ e rfl);obtain⟨-,-,-,d3,-,-,-,-,-,d9,-,-,aH,-⟩:=zc u;have df:=fun j=>zw u j;have dl:=zd u;dsimp only at df dl;have P:=ze l;have C:=ze F;have a6:=ze z;clear l F u f z)
      all_goals
       have r:=ud HS
       have l:w5.ownsRow B 3 1 (.slice (E (U g4 0)) (k+1) m) (us++[sn+c.le]).length ((us++[sn+c.le]).map (I)):=by
        rw[List.length_append,aj,List.map_append];exact ud P
       have hz:∀q,(Value.slice (E (U g4 0)) (k+1) m).ownBlock=E q->(Value.slice ua k uc).ownBlock=E q\/T.1.size<=q:=fun q hq=>by
        have e:g4=q:=(by simpa[Value.ownBlock]using hq);subst e;rcases ud a6 with h|h
        ·exact .inl h
        ·right;rw[h];exact vS _ _
       have a5:=r.setUnts (ud C) l hz
       have af:=(ud C).heap (ud HJ) (fun e=>zp (ud HJ) r.urow (by decide) _ e rfl)
       exact X g4 m _ (ze a5) (ze ((Qy w5 M 12 _).heap af ar)) (ze ((ud HB).trans (r.kpUnts (ud C) hz)))
     case hc2=>
      intro g4 m U9 ab al ax;refine hKA _ _ ?_;try dsimp only
      clear hKA HS HJ HB n x3 x9 a2 xl xf;obtain⟨-,-,x3,-,-,-,x9,-,-,-⟩:=(ud ab).cells;dsimp only at x3 x9;have xl:=(ud ab).lt;dsimp only at xl;obtain⟨-,-,-,-,-,-,-,-,-,j9,aU,-⟩:=zc (ud al);have jl:=zd (ud al);go_wp2_with fail;go_still (by kernel_rfl);go_wp2_with fail;go_ret;have r:=ud ab;exact⟨true,d,_,rfl,r.later (J _ _).drew,rfl,rfl,(ud ax).drew,ud S⟩
theorem zoU(h:zJ w B s c Mp sn ns ks us)(n:Int)(hn:1<=n/\n<=1000)(aj:0<=sn)(hl:sn+n<=100000)(al:us.length<=4398046511104)(R:Int->(D->Prop)->Prop)(HT:Calls prog 26 #[(O s.i.x),I n] w fun e w'=>∃F a,e=.returned (I F)/\yQ s.i a/\a w'/\Kx s.i w w'/\R F a):
  Calls prog 17 #[(O s.p),I n] w fun e w'=>∃F a,e=.returned (.bool (F==0))/\zJ w' B s c a (sn+n) ns ks (us.map (zgN (sn+n)))/\KpS w s w' s/\R F a:=by
 obtain⟨L,si,sd,l,o,m,an⟩:=s;dsimp only at*;obtain⟨c0,_,_,_,_,_,c9,_,_,T⟩:=h.cells;have Y:=h.lt;obtain⟨ua,M,a0⟩:=zR h.urow;dsimp only at a0 c0 c9 T Y;subst a0;have S:=ze HT;have hd:decide (100000<sn+n)=false:=by simp;omega
 have am:IntKind.i64.wrap (sn+n)=sn+n:=by rw[IntKind.wrap_i64];omega
 have H:=ze h;obtain⟨ah,ai⟩:=hn;clear h T HT;go_enter func17,ntmps17;go_wp2_with(first|(go_at_call 26;refine(ud S).mono ?_;rintro e w1 ⟨F,a,rfl,hP,hM,hK,hR⟩;have b:=(ud H).putMill hP hM hK;have V:=b.setNow (sn+n);have d9:=(b.cells).2.2.2.2.2.2.1;dsimp only at d9;have df:=fun j=>zw b.head j;have r:=b.lt;dsimp only at r df;have N:=ze V;have a4:=ze hR;have a3:=ze (((ud H).kpM hK).trans (b.kpNow (I (sn+n))));clear hM hK hR hP b V));have Z:zJ (w1.setCell (U L 9) (I (sn+n))) B ⟨L,si,sd,l,o,m,.slice ua us.length M⟩ c a (sn+n) ns ks (zcC (sn+n) 0 us):=by rw[zhM];exact ud N
 have a5:=ze Z;clear Z d9 df r c0 c9 Y N S;go_loopw [6] (fun y wr=>∃(t:Nat),t<=us.length/\y=I t/\zJ wr B ⟨L,si,sd,l,o,m,.slice ua us.length M⟩ c a (sn+n) ns ks (zcC (sn+n) t us)/\KpS w ⟨L,si,sd,l,o,m,.slice ua us.length M⟩ wr ⟨L,si,sd,l,o,m,.slice ua us.length M⟩) (fun y _=>us.length-(intOf y).toNat);case atStart=>exact⟨0,Nat.zero_le _,rfl,ud a5,ud a3⟩
 case round=>
  obtain⟨t,ak,rfl,f,W⟩:=hrel;obtain⟨-,-,-,-,-,-,e9,-,-,a6⟩:=f.cells;dsimp only at e9 a6;have a9:=f.lt;dsimp only at a9;have ag:(us.length:Int)<=4398046511104:=by omega
  by_cases k:t<us.length
  ·have ad:(t:Int)<us.length:=(by omega);have d:=zec (sn+n) t us;obtain⟨g,gc,K,af,a7,ae⟩:=zaD f.urow (j:=t) (by rw[d];exact k);rw[d]at K;dsimp only at K;cases K;have G:(zcC (sn+n) t us)[t]?=E us[t]:=(by rw[znN _ _ _ k,List.getElem?_eq_getElem k]);have hu:(zcC (sn+n) t us)[t]'(by rw[d];exact k)=us[t]:=(List.getElem?_eq_some_iff.1 G).2;rw[hu]at a7;have q:=ze (zhL (sn+n) t us k);have a1:=ze G;have C:=ze f;have v:=f.setUnt (g:=g) (cap:=M) (by rw[d]) t 0;have P:=ze v;have a2:=ze (W.trans (f.kpUnt (g:=g) (cap:=M) (by rw[d]) t (I 0)));have z:=ze W;have a8:¬g=L:=zp f.head f.urow (by decide) g rfl;have aa:¬L=g:=fun e=>a8 e.symm;clear f d G v hu W;generalize us[t]=u at*;by_cases X:u<=sn+n
   ·go_wp2_with fail;go_still (by kernel_rfl);go_wp2_with fail;go_roundw;case rel=>
     refine⟨t+1,by omega,by go_num,?_,(ud a2).drew⟩;rw[ud q,zkK X];exact(ud P).later (J _ _).drew
    case measure=>simp[intOf];omega
   ·have ab:decide (u<=sn+n)=false:=(by simpa using X);go_wp2_with fail;go_still (by kernel_rfl);go_wp2_with fail;go_roundw;case rel=>
     refine⟨t+1,by omega,by go_num,?_,(ud z).drew⟩;rw[ud q,zhN (by omega),zlX (ud a1)];exact(ud C).later (J _ _).drew
    case measure=>simp[intOf];omega
  ·have ac:decide ((t:Int)<us.length)=false:=(by simp;omega);have C:=ze f;have z:=ze W;clear f W;go_wp2_with fail;go_ret;have ht:t=us.length:=(by omega);have h9:=ud C;rw[ht,zkJ]at h9;exact⟨F,a,rfl,h9,ud z,ud a4⟩
end Go.Proofs.YtndhpgciopcncaaGreatDoor
