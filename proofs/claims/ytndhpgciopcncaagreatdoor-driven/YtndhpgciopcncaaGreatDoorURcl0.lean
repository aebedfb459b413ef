import Derived.Test.YtndhpgciopcncaaGreatDoorUCmq0
open Go.Value renaming int → I
open Go.IntKind renaming i64 → O
open Option renaming none → E
open Option renaming some → U
open Go renaming World → Y
open Go.RowKit.Below renaming refl → Z
open Nat renaming le_refl → N
open Go.RowKit renaming Below → G
open Go.IntKind (i32)
set_option linter.unusedVariables false
set_option maxRecDepth 100000
set_option maxHeartbeats 4000000
open Go.Proofs.Tryz
namespace Go.Proofs.YtndhpgciopcncaaGreatDoor
open Go.RowKit Go.Maps Go.Shelf
attribute [local go_sem] Oper.semAt_some
theorem zaO(T:ByteArray)(g:T.size=0)(b:Nat)(w:Y)(d:w.cell? ⟨b,0,E⟩=U (.string T))(c:b<w.1.size)(Kp:Y->Y->Prop)(encs:ByteArray->Array Value)(m:Nat):
  X5 Fence.wide 6 prog 202 #[.pointer (U ⟨b,0,E⟩)] encs Kp (fun xs=>xs=[]) (fun _=>False) 0 m w:=by
 intro l J k W a q o f h e
 have n:=(a.cell (p:=⟨b,0,E⟩) c).trans d
 have i:=Nat.lt_of_lt_of_le c a.size
 have j:decide ((0:Int)<(T.size:Int))=false:=by rw[g];rfl
 clear a d c h
 show CallsIn Fence.wide 6 prog 202 #[.func (.yield l) #[] #[],.pointer (U ⟨b,0,E⟩)] W _
 refine callsIn_of_wp func202 rfl trivial ?_ rfl
 simp only[ntmps202,List.size_toArray,List.length_cons,List.length_nil,Nat.reduceAdd,Nat.reduceSub,Array.replicate_succ,Array.replicate_zero,List.push_toArray,List.append_toArray,List.nil_append,List.cons_append]
 gi_wp2
 gi_loopw [] (fun wr=>wr=W) (fun _=>0)
 case atStart=>rfl
 case round=>
  subst hrel
  gi_wp2
  go_end0
  exact⟨⟨_,rfl⟩,.inl ⟨[],rfl,e⟩⟩
theorem zec:∀args w,(callFunc 202 args).run prog w=.ok (.enter 202 args) w:=enters_of func202 (by kernel_rfl) rfl
theorem zhN{w:Y}{x b:Nat}(T:ByteArray)(L:T.size=0)(q:w.1[b]?=U (.cells #[.string T] 9 (0,0))):
  Calls prog 71 #[.pointer (U ⟨x,0,E⟩),.func (.func 202) #[] #[.pointer (U ⟨b,0,E⟩)]] w fun e w'=>e=.returned (.tuple #[])/\G w.1.size w w':=by
 have a:G w.1.size w (w.alloc (.cells #[.pointer (U ⟨x,0,E⟩)] 38)):=(Z _ _).alloc (N _) _
 have j:=(a.block _ (za q)).trans q
 have g:=zd a
 have h:=zd j
 clear q a j
 refine(callsIn_wide (n:=7)).1 ?_
 refine callsIn_of_wp_marks func71 rfl trivial ?_ rfl
 simp only[ntmps71,List.size_toArray,List.length_cons,List.length_nil,Nat.reduceAdd,Nat.reduceSub,Array.replicate_succ,Array.replicate_zero,List.push_toArray,List.append_toArray,List.nil_append,List.cons_append]
 refine wpIn_wide.2 ?_
 go_wp2_with fail
 generalize(w.alloc (.cells #[.pointer (U ⟨x,0,E⟩)] 38))=X at*
 obtain⟨r,-⟩:=zc (ud h)
 refine(wpIn_wide (n:=7)).1 ?_
 refine qD (F:=Fence.wide) (n:=7) rfl (by omega) (gf:=202) (lb:=#[.pointer (U ⟨b,0,E⟩)]) rfl trivial zec (zaO T L b X r (za (ud h)) (fun _ _=>True) (fun x:ByteArray=>#[.string x]) 0) (Nat.zero_le _) (fun _ _=>trivial) (fun _ _ _ _ _ _=>trivial) (Z _ _) (fun _=>rfl)
  (fun d W=>G X.1.size X W) (fun _ _ _=>False)
  (fun s A B R f m C=>f.trans ⟨m.os,m.tape,m.output,m.size,fun k P=>m.block k (Nat.lt_of_lt_of_le P f.size) (fun e=>absurd (C k e.symm).1 (by omega))⟩)
  (fun _ _ _ _ _ f _ _=>f)
  (Z _ _)
  (fun _ _ _=>True) (fun _ _ _ _ _ _ f _ _=>f) ?assign ?body ?done ?stop
 case assign=>
  rintro l d y W K i1 z
  have H:=zd z
  clear z
  gi_wp2
  exact ud H _ _ (zh (Z _ _)) trivial i1 trivial
 case body=>
  rintro l d y S W hl C i1 _ t
  exact absurd t (Nat.not_lt_zero _)
 case done=>
  rintro D xs W J _ i1 i
  have p:=zd i
  have o:=zd i1
  clear i1 i
  gi_wp2
  have i1:=ud o
  have u:=(ud g).size
  refine⟨by simp,.inl ⟨_,_,rfl,run_takeDeferred (ud p),?_⟩⟩
  have Q:zo (fun k=>k=D) W (W.putObj D (.deferred E)):=(zo.refl (fun k=>k=D) W).grown (grownBy_putObj' W D (.deferred E)) (fun k e _=>by cases e;rfl)
  have v:G w.1.size w W:=(ud g).trans (i1.mono u)
  exact⟨_,results_none rfl _ _ _,rfl,v.trans (Q.below v.size (fun k e=>by have V:k=D:=e;omega))⟩
 case stop=>
  rintro D c d W J M
  exact M.elim
theorem zdr(c:Cf)(T:ByteArray)(d:T.size=0)(A:Ids->Y->Prop):Ju c T ms0 A:=fun W i ep q b h f hn _=>
 (zhN T d f).mono fun e w' ⟨g,a⟩=>⟨g,h.later a,Kx.below a h.dlt⟩
theorem Jd{c:Cf}{m:MS}{a:List (Jk×Tsk)}(h:qv c m a)(f:m.L=[])(l:m.TL=[]):a=[]:=by
 obtain⟨n,d,e,o,j,k,rfl⟩:=h.to
 have g:d=[]:=List.eq_nil_iff_forall_not_mem.2 (fun s b=>by have:=((j s).1 b).1;rw[f]at this;simp[zr]at this)
 have i:e=[]:=List.eq_nil_iff_forall_not_mem.2 (fun s b=>by have:=((k s).1 b).1;rw[f]at this;simp[zr]at this)
 rw[g,i,l];rfl
theorem zx.zero{T e:TypeId}{B:Nat}{w:Y}{p:Nat}{S:DS}{fs:Value}(h:zx T e B w p S fs):zx T e 0 w p S fs:=⟨h.head,Nat.zero_le _,QS h.row⟩
theorem zdq:(xT 0 []).size<=100:=by rw[Zb];have:=Zc (now:=0) (xs:=[]) (by unfold xh;omega) (by simp);simp at this;omega
theorem Vb(c:Cf)(r:c.ok)(P:c.fits)(R:xU c.s c.le c.la c.wi c.ke c.qu c.n c.F c.W c.K=true)(a:Option Addr)(cap B p:Nat)(fs:Value)(w:Y)(X:B<=w.1.size)(L:zx 111 113 B w p ZV fs)(m:∀w',zo (foot p fs) w w'->TS w' a c.n c.F c.W c.K)(f:ZR w)(l:∀k,foot p fs k->k≠Qh):
  Calls prog 29 #[.agg #[I O c.s,I O c.le,I O c.la,I O c.wi,I O c.ke,I O c.qu,.slice a c.n cap],.pointer (U ⟨p,0,E⟩)] w fun e w'=>∃i:Ids,i.d=p/\e=.returned (.tuple #[.pointer (U ⟨i.x,0,E⟩),I O 0])/\zC w' i c 1 ⟨0,[],[],0,[],[]⟩/\zo (foot p fs) w w'/\∀k,zY w' i k->foot p fs k\/w.1.size<=k:=by
 obtain⟨g,v,y⟩:=zgF
 have J:((yC (Qg ZV) yc).extract 0 (zge (yC (Qg ZV) yc))).size=0:=by rw[g,zfB];simp[ByteArray.size]
 have j:DOk ZV 10:=⟨by simp[ZV],by simp[ZV],by simp[ZV],by simp[ZV]⟩
 refine(zje c r R a cap p ZV fs w L.zero 10 (by omega) j v m f l ms0 (fun _ _=>True) (fun _ _ _ _=>trivial) (zdr c _ J _) ⟨by decide,by decide⟩ (by intro x o;cases o) (by decide) (by decide) (by intro p h;cases h) (by decide) (fun t h=>by rw[g];exact(zdv _ _).2.1)).mono ?_
 rintro e w' ⟨i,t,u,Q,M,h,q,H,D,C⟩
 have z:t=[]:=h.eq_nil
 have A:=Jd H rfl rfl
 subst z
 subst A
 obtain⟨T,r2,V⟩:=zdv 1 (xT 0 [])
 rw[y]at q
 have b:JY (Qg ZV) (xT 0 []) 0=(xT 0 []).size+1:=by unfold JY;rw[g,V];rfl
 have S:=zdq
 refine⟨i,Q,M,⟨_,xT 0 []++nl,[],q,rfl,?_,by omega,?_,?_,.start _ _ _ P (SOk.new r) (by intro x o;cases o) (fun _=>⟨rfl,rfl,rfl⟩)⟩,D,C⟩
 ·show zbn (Qg ZV) (xT 0 [])=_;rw[g,T];rfl
 ·show 0<=JY (Qg ZV) (xT 0 []) 0/\JY (Qg ZV) (xT 0 []) 0<=100000000000;rw[b];omega
 ·show((xT 0 []++nl).size:Int)<=2*JY (Qg ZV) (xT 0 []) 0+4096;rw[b,XQ];omega
theorem ziI{w:Y}{i:Ids}(h:zC w i awC 1 ⟨0,[],[],0,[],[]⟩):
  Calls prog 27 #[.pointer (U ⟨i.x,0,E⟩),I O 1,I O 0,I i32 7] w fun e w'=>e=.returned (I O 0)/\zC w' i awC 1 zjz/\Kx i w w':=
 (J4 h jq 1 0 7 (by omega) (by dsimp only;omega) (by decide) (by decide) (by omega) (by decide) (by intro p c;cases c) (fun k f=>rfl) (by decide) (by decide) (by intro p c;cases c)).mono fun e w' ⟨a,b,d⟩=>⟨a,b,d⟩
theorem zgE{w:Y}{i:Ids}(h:zC w i awC 1 zjz):
  Calls prog 26 #[.pointer (U ⟨i.x,0,E⟩),I O 6] w fun e w'=>e=.returned (I O 0)/\zC w' i awC 1 zjA/\Kx i w w':=by
 refine(Zv h jq 6 (by omega) (by decide) ⟨(fun p a=>by cases a),(fun p a=>by cases a),(fun p a=>by cases a),by decide,by decide,by decide⟩ ?_ (by decide) ?_).mono ?_
 ·intro p a
  simp[zjz,zbX]at a
  rcases a with rfl|rfl
  ·exact Qt
  ·exact Kc
 ·intro T Q q
  rw[(JF q).1];simp
 ·rintro e w' ⟨k,d,b,c,l,m,n,r,o⟩
  obtain⟨f,g⟩:=JF n
  subst f
  subst g
  have j:=zey o
  subst j
  exact⟨k,l,m⟩
theorem zbZ{w:Y}{i:Ids}{m:MS}(h:zC w i awC 1 m){k:Jk}{x:Tsk}(d:m.TL=[(k,x)])(c:m.QL=[])(hn:m.now=6)(v:Xi awC 6 x)(r:x.rest<=6)(j:m.num=0\/m.num=1)(u:0<=zp m.L/\zp m.L<=1000):
  Calls prog 18 #[.pointer (U ⟨i.x,0,E⟩),I O 0] w fun e w'=>e=.returned (.tuple #[.agg #[I O x.kd,I O x.s.t,I O x.s.sr,I O x.s.wa,I O x.se,I O x.ti,I O x.rest,I O 1,I O (m.num+1),I O 0,I O 15],I O 0])/\zC w' i awC 1 {m with num:=m.num+1,QL:=qq m.QL ⟨1,m.num+1⟩ ⟨x.kd,x.s,0,15⟩}/\Kx i w w':=by
 refine(XP h jq 0 (by decide) (by omega) ?_ (by rw[c];simp) (by omega) (by unfold xh;omega) (by rw[c];intro q o;cases o) u).mono ?_
 ·intro p a
  rw[d]at a
  simp at a
  subst a
  rw[hn];exact v
 ·rintro e w' (⟨_,_,b⟩|⟨_,_,b⟩|⟨p,a,_,f,g,n⟩)
  ·rw[c]at b;simp at b
  ·have:=b (k,x) (by rw[d];simp)
   unfold yJ at this
   rw[c,hn]at this
   simp[kh,r]at this
  ·rw[d]at a
   simp at a
   subst a
   have l:m.now+awC.le=15:=by rw[hn];rfl
   rw[l]at f g
   exact⟨f,g,n⟩
theorem zew{w:Y}{i:Ids}(h:zC w i awC 1 zjA):
  Calls prog 18 #[.pointer (U ⟨i.x,0,E⟩),I O 0] w fun e w'=>e=.returned (.tuple #[.agg #[I O 1,I O 0,I O 1,I O 0,I O 6,I O 0,I O 0,I O 1,I O 1,I O 0,I O 15],I O 0])/\zC w' i awC 1 ziy/\Kx i w w':=
 zbZ (m:=zjA) h rfl rfl rfl ⟨by decide,by decide,by decide,by decide⟩ (by decide) (.inl rfl) (by decide)
theorem zex{w:Y}{i:Ids}(h:zC w i awC 1 zjB):
  Calls prog 18 #[.pointer (U ⟨i.x,0,E⟩),I O 0] w fun e w'=>e=.returned (.tuple #[.agg #[I O 2,I O (-1),I O 1,I O 0,I O 6,I O 0,I O 0,I O 1,I O 2,I O 0,I O 15],I O 0])/\zC w' i awC 1 zjC/\Kx i w w':=
 zbZ (m:=zjB) h rfl rfl rfl ⟨by decide,by decide,by decide,by decide⟩ (by decide) (.inr rfl) (by decide)
theorem zgB{w:Y}{i:Ids}(h:zC w i awC 1 ziy):
  Calls prog 20 #[.pointer (U ⟨i.x,0,E⟩),.agg #[I O 1,I O 1]] w fun e w'=>e=.returned (I O 0)/\zC w' i awC 1 zjB/\Kx i w w':=by
 refine(jH h jq ⟨1,1⟩ (by unfold Tok.wf xh;dsimp only;omega) (g:=⟨1,awT,0,15⟩) rfl (by unfold Jk.wf Lse.job xh;exact⟨by dsimp only;omega,Kc.1⟩) awT 6 0 0 rfl Kc 0 rfl (by decide) (by decide) ?_ (by decide) (by decide) (by decide)).mono ?_
 ·rw[show qT ziy.L awT ⟨3,xi (zW awC ziy.L awT.sr awT.wa 0)⟩=zek from zca]
  intro p a
  simp[zek]at a
  rcases a with rfl|rfl
  ·exact Qt
  ·exact Kc
 ·rw[show qT ziy.L awT ⟨3,xi (zW awC ziy.L awT.sr awT.wa 0)⟩=zek from zca]
  rintro e w' ⟨d,b,f,j,k⟩
  have c:=zez (num:=1) k
  subst c
  exact⟨d,f,j⟩
theorem zgC{w:Y}{i:Ids}(h:zC w i awC 1 zjC):
  Calls prog 20 #[.pointer (U ⟨i.x,0,E⟩),.agg #[I O 1,I O 2]] w fun e w'=>e=.returned (I O 0)/\(∃a,zC w' i awC 1 ⟨6,ziG,[(awR,())],2,a,[]⟩)/\Kx i w w':=by
 refine(kG h jq ⟨1,2⟩ (by unfold Tok.wf xh;dsimp only;omega) (g:=⟨2,awR,0,15⟩) rfl (by unfold Jk.wf Lse.job xh;exact⟨by dsimp only;omega,Qt.1⟩) awR 6 0 0 rfl Qt (by decide) (by decide) ?_ (by decide) (by decide) (by decide)).mono ?_
 ·intro p b
  rw[show xe zjC.L awR=ziG from rfl]at b
  simp[ziG]at b
  rcases b with rfl
  exact Kc
 ·rintro e w' ⟨c,a,d,f,j⟩
  exact⟨c,⟨a,d⟩,f⟩
theorem zjF{w:Y}{i:Ids}{a:List (Jk×Tsk)}(h:zC w i awC 1 ⟨6,ziG,[(awR,())],2,a,[]⟩):
  Calls prog 57 #[.pointer (U ⟨i.x,0,E⟩),I O 0,I O 1,I O 0] w fun e w'=>e=.returned (.tuple #[.agg #[I O 1,I O 7,I i32 7,I i32 7],I O 0])/\G w.1.size w w':=yT h jq (by dsimp only;omega) 0 1 0 (by decide) (by decide) (by decide)
theorem zjG{w:Y}{i:Ids}{a:List (Jk×Tsk)}(h:zC w i awC 1 ⟨6,ziG,[(awR,())],2,a,[]⟩):
  Calls prog 57 #[.pointer (U ⟨i.x,0,E⟩),I O (-1),I O 1,I O 0] w fun e w'=>e=.returned (.tuple #[.agg #[I O 0,I O 0,I i32 0,I i32 0],I O 12])/\G w.1.size w w':=yT h jq (by dsimp only;omega) (-1) 1 0 (by decide) (by decide) (by decide)
theorem zjH{W:Y}{ta:Nat}(h:W.1[ta]?=U (.cells #[I O (-1),I O 2,I O 100] 80 (0,0))):TS W (U ⟨ta,0,E⟩) awC.n awC.F awC.W awC.K:=fun _=>by
 refine⟨ta,0,rfl,za h,fun i a=>?_⟩
 obtain rfl:i=0:=by have:awC.n=1:=rfl;omega
 exact⟨by rw[xD h];rfl,by rw[xD h];rfl,by rw[xD h];rfl⟩
theorem Kx.foot{i:Ids}{w w':Y}(h:Kx i w w'){k:Nat}(a:zY w' i k):zY w i k\/w.1.size<=k:=by
 rcases a with e|e
 ·exact .inl (.inl e)
 ·rcases h.fs k e with e|e
  ·exact .inl (.inr e)
  ·exact .inr e
theorem Kx.not{i:Ids}{w w':Y}(h:Kx i w w'){k:Nat}(hn:¬zY w i k)(a:k<w.1.size):¬zY w' i k:=fun e=>by
 rcases h.foot e with e|e
 ·exact hn e
 ·omega
theorem zan{w M b:Y}{i:Ids}(c:G w.1.size w M)(d:Kx i M b)(a:∀k,zY M i k->w.1.size<=k):G w.1.size w b:=c.trans (d.kept.below c.size a)
theorem zbY{w M b:Y}{i:Ids}(c:G w.1.size w M)(d:Kx i M b)(a:∀k,zY M i k->w.1.size<=k):∀k,zY b i k->w.1.size<=k:=fun k e=>by
 rcases d.foot e with e|e
 ·exact a k e
 ·exact Nat.le_trans c.size e
theorem ziJ{M:Y}{i:Ids}{c:Cf}{ep:Int}{m:MS}{B:Nat}(h:zC M i c ep m)(a:∀k,zY M i k->B<=k)(b:B<=M.1.size)(o:Obj):∀k,zY (M.alloc o) i k->B<=k:=fun k e=>by
 rcases(h.below ((Z _ _).alloc (N _) o)).foot e with e|e
 ·exact a k e
 ·omega
theorem ziK{M:Y}{i:Ids}{c:Cf}{ep:Int}{m:MS}(h:zC M i c ep m)(o:Obj):¬zY (M.alloc o) i M.1.size:=by
 obtain⟨q,txt,ns,a⟩:=h
 exact Z5 a.at_ ((Z _ _).alloc (N _) o)
theorem zjE{M a:Y}{i:Ids}{c:Cf}{ep:Int}{m:MS}{k:Nat}(h:zC M i c ep m)(b:G M.1.size M a)(hn:¬zY M i k)(d:k<M.1.size):¬zY a i k:=(h.below b).not hn d
theorem zgD{D:Y}{p B ta:Nat}(g:zx 111 113 B D p ZV (.slice E 0 0))(n:B<=D.1.size)(h:D.1[ta]?=U (.cells #[I O (-1),I O 2,I O 100] 80 (0,0)))(a:ZR D)(f:p≠Qh):
  Hid (Calls prog 29 #[.agg #[I O 1,I O 9,I O 0,I O 2,I O 4,I O 9,.slice (U ⟨ta,0,E⟩) 1 1],.pointer (U ⟨p,0,E⟩)] D fun e M=>∃i:Ids,e=.returned (.tuple #[.pointer (U ⟨i.x,0,E⟩),I O 0])/\zC M i awC 1 ⟨0,[],[],0,[],[]⟩/\zo (fun k=>k=p) D M/\∀k,zY M i k->k=p\/D.1.size<=k):=by
 have d:p≠ta:=fun e=>by
  have b:=g.head
  rw[e,h]at b
  cases b
 refine zd ((Vb awC jq zev Kb (U ⟨ta,0,E⟩) 1 B p (.slice E 0 0) D n g (fun w' c=>zjH (c.heap h (fun e=>?_))) a (fun k e=>?_)).mono ?_)
 ·rcases e with e|e
  ·exact d e.symm
  ·cases e
 ·rcases e with e|e
  ·rw[e];exact f
  ·cases e
 ·rintro e M ⟨i,_,b,j,l,m⟩
  exact⟨i,b,j,l.mono (fun k _ e=>by rcases e with e|e;exact e;cases e),fun k c=>by
   rcases m k c with(e|e)|e
   ·exact .inl e
   ·cases e
   ·exact .inr e⟩
theorem VJ{X D M:Y}{b:Nat}(a:zo (fun k=>k=X.1.size) D M)(d:D.1.size=X.1.size+1)(c:b<X.1.size)(j:Nat):M.cell? ⟨b,j,E⟩=D.cell? ⟨b,j,E⟩:=zM a (show¬b=X.1.size by omega) (by omega)
theorem zcb(w:Y)(t:ZR w):Calls prog 36 #[] w fun e w'=>e=.returned (.bool true)/\G w.1.size w w':=by
 obtain⟨y0,y1,ae,yz⟩:=box2 w (.cells #[I O (-1),I O 2,I O 100] 80) (.cells #[I O 1,I O 9,I O 0,I O 2,I O 4,I O 9,.slice (U ⟨w.1.size,0,E⟩) 1 1] 27)
 obtain⟨c0,c1,c2,c3,c4,c5,c6,-⟩:=zc y1
 have Y0:=zd y0
 have h:=zd ae
 have YZ:=zd yz
 have ap:=za y1
 have ao:=za y0
 clear y0 y1 ae yz
 go_enter func36,ntmps36
 go_wp2_with fail
 generalize((w.alloc (.cells #[I O (-1),I O 2,I O 100] 80)).alloc (.cells #[I O 1,I O 9,I O 0,I O 2,I O 4,I O 9,.slice (U ⟨w.1.size,0,E⟩) 1 1] 27))=X at*
 have c:w.1.size+1<X.1.size:=ap
 have HN:=fun W (hB:X.1.size<=W.1.size)=>zd (zda X.1.size W hB)
 have HO:=fun D (h1:zx 111 113 X.1.size D X.1.size ZV (.slice E 0 0)) (h2:G X.1.size X D)=>zgD (ta:=w.1.size) h1 h2.size ((h2.block _ ao).trans (ud Y0)) (jC (jC t (ud h)) h2) (by have h3:=t.lt;have h4:=(ud h).size;omega)
 go_region_held3 (fun w'=>w'.cell? ⟨w.1.size+1,0,E⟩=U (I O 1)/\w'.cell? ⟨w.1.size+1,1,E⟩=U (I O 9)/\w'.cell? ⟨w.1.size+1,2,E⟩=U (I O 0)/\w'.cell? ⟨w.1.size+1,3,E⟩=U (I O 2)/\w'.cell? ⟨w.1.size+1,4,E⟩=U (I O 4)/\w'.cell? ⟨w.1.size+1,5,E⟩=U (I O 9)/\w'.cell? ⟨w.1.size+1,6,E⟩=U (.slice (U ⟨w.1.size,0,E⟩) 1 1)) (go_keep) (first
  |(go_at_call 38;(with_reducible refine(ud (HN _ ?hb)).mono ?_);(case hb=>exact N _);rintro e D ⟨rfl,hD,l,af⟩;have g:G X.1.size X D:=⟨l.os,l.tape,l.output,l.size,l.block⟩;have ag:D.1.size=X.1.size+1:=af;have d0:D.cell? ⟨w.1.size+1,0,E⟩=U (I O 1):=(g.cell (p:=⟨w.1.size+1,0,E⟩) c).trans c0;have d1:D.cell? ⟨w.1.size+1,1,E⟩=U (I O 9):=(g.cell (p:=⟨w.1.size+1,1,E⟩) c).trans c1;have d2:D.cell? ⟨w.1.size+1,2,E⟩=U (I O 0):=(g.cell (p:=⟨w.1.size+1,2,E⟩) c).trans c2;have d3:D.cell? ⟨w.1.size+1,3,E⟩=U (I O 2):=(g.cell (p:=⟨w.1.size+1,3,E⟩) c).trans c3;have d4:D.cell? ⟨w.1.size+1,4,E⟩=U (I O 4):=(g.cell (p:=⟨w.1.size+1,4,E⟩) c).trans c4;have d5:D.cell? ⟨w.1.size+1,5,E⟩=U (I O 9):=(g.cell (p:=⟨w.1.size+1,5,E⟩) c).trans c5;have d6:D.cell? ⟨w.1.size+1,6,E⟩=U (.slice (U ⟨w.1.size,0,E⟩) 1 1):=(g.cell (p:=⟨w.1.size+1,6,E⟩) c).trans c6;have HD:Hid (zx 111 113 X.1.size D X.1.size ZV (.slice E 0 0)):=hD;have u:=zd g;have j:=zd ag;clear hD l g af ag HN)
  |(go_at_call 29;(first|(with_reducible refine(ud (HO _ (ud HD) (ud u))).mono ?_)|refine(ud (HO _ (ud HD) (ud u))).mono ?_);rintro e M ⟨i,rfl,hM,o,q⟩;have m0:M.cell? ⟨w.1.size+1,0,E⟩=U (I O 1):=(VJ o (ud j) c 0).trans d0;have m1:M.cell? ⟨w.1.size+1,1,E⟩=U (I O 9):=(VJ o (ud j) c 1).trans d1;have m2:M.cell? ⟨w.1.size+1,2,E⟩=U (I O 0):=(VJ o (ud j) c 2).trans d2;have m3:M.cell? ⟨w.1.size+1,3,E⟩=U (I O 2):=(VJ o (ud j) c 3).trans d3;have m4:M.cell? ⟨w.1.size+1,4,E⟩=U (I O 4):=(VJ o (ud j) c 4).trans d4;have m5:M.cell? ⟨w.1.size+1,5,E⟩=U (I O 9):=(VJ o (ud j) c 5).trans d5;have m6:M.cell? ⟨w.1.size+1,6,E⟩=U (.slice (U ⟨w.1.size,0,E⟩) 1 1):=(VJ o (ud j) c 6).trans d6;have HM:=zd hM;have HK:=zd o;have al:=zd q;clear hM o q))
 have m:=ud u
 have q:∀k,zY M i k->w.1.size<=k:=fun k o=>by
  rcases ud al k o with e|e
  ·rw[e];exact(ud h).size
  ·exact Nat.le_trans (ud h).size (Nat.le_trans m.size e)
 have n:=(ud h).trans (m.mono (ud h).size)
 have Q:=zd (n.trans ((ud HK).below n.size (fun k e=>by have:=(ud h).size;have e':k=X.1.size:=e;omega)))
 have a6:=zd q
 clear m q n c0 d0 m0 c1 d1 m1 c2 d2 m2 c3 d3 m3 c4 d4 m4 c5 d5 m5 c6 d6 m6
 go_wp2_with(first
  |(go_at_call 27;refine(ziI (ud HM)).mono ?_;rintro e M1 ⟨rfl,b,a⟩;have am:=zd b;have C:=zd (zan (ud Q) a (ud a6));have a2:=zd (zbY (ud Q) a (ud a6));clear b a)
  |(go_at_call 26;refine(zgE (ud am)).mono ?_;rintro e M2 ⟨rfl,b,a⟩;have a7:=zd b;have F:=zd (zan (ud C) a (ud a2));have a3:=zd (zbY (ud C) a (ud a2));clear b a)
  |(go_at_call 18;refine(zew (ud a7)).mono ?_;rintro e M3 ⟨rfl,b,a⟩;have f:=zan (ud F) a (ud a3);have a4:=zd (ziJ b (zbY (ud F) a (ud a3)) f.size (.cells #[I O 1,I O 0,I O 1,I O 0,I O 6,I O 0,I O 0,I O 1,I O 1,I O 0,I O 15] 51));have x:=(Z M3.1.size M3).alloc (N _) (.cells #[I O 1,I O 0,I O 1,I O 0,I O 6,I O 0,I O 0,I O 1,I O 1,I O 0,I O 15] 51);have a8:=zd (b.later x);have H:=zd (f.alloc f.size (.cells #[I O 1,I O 0,I O 1,I O 0,I O 6,I O 0,I O 0,I O 1,I O 1,I O 0,I O 15] 51));have S:=zd (zm M3 (.cells #[I O 1,I O 0,I O 1,I O 0,I O 6,I O 0,I O 0,I O 1,I O 1,I O 0,I O 15] 51));have ad:Hid (¬zY (M3.alloc (.cells #[I O 1,I O 0,I O 1,I O 0,I O 6,I O 0,I O 0,I O 1,I O 1,I O 0,I O 15] 51)) i M3.1.size):=ziK b _;clear b a f x a7)
  |(go_at_call 20;refine(zgB (ud a8)).mono ?_;rintro e M4 ⟨rfl,b,a⟩;have aa:=zd b;have J:=zd (zan (ud H) a (ud a4));have a5:=zd (zbY (ud H) a (ud a4));have r:=zd (a.kept.heap (ud S) (ud ad));have s:=zd (a.not (ud ad) (za (ud S)));clear b a a8)
  |(go_at_call 18;refine(zex (ud aa)).mono ?_;rintro e M5 ⟨rfl,b,a⟩;have f:=zan (ud J) a (ud a5);have ak:=zd (ziJ b (zbY (ud J) a (ud a5)) f.size (.cells #[I O 2,I O (-1),I O 1,I O 0,I O 6,I O 0,I O 0,I O 1,I O 2,I O 0,I O 15] 51));have a9:=zd (zjE b ((Z _ _).alloc (N _) (.cells #[I O 2,I O (-1),I O 1,I O 0,I O 6,I O 0,I O 0,I O 1,I O 2,I O 0,I O 15] 51)) (a.not (ud s) (za (ud r))) (za (a.kept.heap (ud r) (ud s))));have x:=(Z M5.1.size M5).alloc (N _) (.cells #[I O 2,I O (-1),I O 1,I O 0,I O 6,I O 0,I O 0,I O 1,I O 2,I O 0,I O 15] 51);have ab:=zd (b.later x);have ah:=zd (f.alloc f.size (.cells #[I O 2,I O (-1),I O 1,I O 0,I O 6,I O 0,I O 0,I O 1,I O 2,I O 0,I O 15] 51));have ai:=zd ((Below.heap_alloc _ (.cells #[I O 2,I O (-1),I O 1,I O 0,I O 6,I O 0,I O 0,I O 1,I O 2,I O 0,I O 15] 51) _ (za (a.kept.heap (ud r) (ud s)))).trans (a.kept.heap (ud r) (ud s)));have aj:=zd (zm M5 (.cells #[I O 2,I O (-1),I O 1,I O 0,I O 6,I O 0,I O 0,I O 1,I O 2,I O 0,I O 15] 51));have an:Hid (¬zY (M5.alloc (.cells #[I O 2,I O (-1),I O 1,I O 0,I O 6,I O 0,I O 0,I O 1,I O 2,I O 0,I O 15] 51)) i M5.1.size):=ziK b _;clear b a f x aa)
  |(go_at_call 20;refine(zgC (ud ab)).mono ?_;rintro e M6 ⟨rfl,⟨aq,b⟩,a⟩;have v:=zd b;have K:=zd (zan (ud ah) a (ud ak));have T:=zd (a.kept.heap (ud ai) (ud a9));have a0:=zd (a.kept.heap (ud aj) (ud an));clear b a ab)
  |(go_at_call 57;refine(zjF (ud v)).mono ?_;rintro e M7 ⟨rfl,y⟩;have x:=(Z M7.1.size M7).alloc (N _) (.cells #[I O 1,I O 7,I i32 7,I i32 7] 115);have d:=y.alloc y.size (.cells #[I O 1,I O 7,I i32 7,I i32 7] 115);have ac:=zd ((ud v).later d);have L:=zd ((ud K).trans (d.mono (ud K).size));have V:=zd ((d.block _ (za (ud T))).trans (ud T));have a1:=zd ((d.block _ (za (ud a0))).trans (ud a0));have R:=zd (zm M7 (.cells #[I O 1,I O 7,I i32 7,I i32 7] 115));clear y d x v)
  |(go_at_call 57;refine(zjG (ud ac)).mono ?_;rintro e M8 ⟨rfl,d⟩;have P:=zd ((ud L).trans (d.mono (ud L).size));have A:=(d.block _ (za (ud V))).trans (ud V);have B:=(d.block _ (za (ud a1))).trans (ud a1);have z:=(d.block _ (za (ud R))).trans (ud R);obtain⟨i0,-⟩:=zc A;obtain⟨j0,-⟩:=zc B;obtain⟨d0,d1,-⟩:=zc z;have li:=za A;have lj:=za B;have ld:=za z;clear d A B z ac))
 go_ret
 exact⟨rfl,(ud P).alloc (ud P).size _⟩
end Go.Proofs.YtndhpgciopcncaaGreatDoor
