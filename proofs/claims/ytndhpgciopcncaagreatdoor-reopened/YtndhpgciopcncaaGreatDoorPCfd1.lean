import Derived.Test.YtndhpgciopcncaaGreatDoorPBrd2
open Option renaming some → J
open Nat renaming le_trans → E
set_option linter.unusedVariables false
set_option maxRecDepth 20000
set_option maxHeartbeats 40000000
open Go.Proofs.Tryz
namespace Go.Proofs.YtndhpgciopcncaaGreatDoor
open Go.RowKit Go.Maps Go.Shelf
theorem zkx(s le la wi ke qu:Int)(a:Option Addr)(n cap:Nat)(F0 W0 K0:Nat->Int)(w:World)(h1: -9223372036854775808<=s/\s<=9223372036854775807)(h2: -9223372036854775808<=le/\le<=9223372036854775807)(h3: -9223372036854775808<=la/\la<=9223372036854775807)(h4: -9223372036854775808<=wi/\wi<=9223372036854775807)(h5: -9223372036854775808<=ke/\ke<=9223372036854775807)(h6: -9223372036854775808<=qu/\qu<=9223372036854775807)(bH:TS w a n F0 W0 K0)(hn:n<=140737488355328)(hF:∀i,i<n-> -9223372036854775808<=F0 i/\F0 i<=9223372036854775807)(hW:∀i,i<n-> -9223372036854775808<=W0 i/\W0 i<=9223372036854775807)(hK:∀i,i<n-> -9223372036854775808<=K0 i/\K0 i<=9223372036854775807):
  Calls prog 37 #[.agg #[I s,I le,I la,I wi,I ke,I qu,.slice a n cap]] w (zpc (znn s le la wi ke qu n F0 W0 K0) w):=by
 obtain⟨a1,b1,P1⟩:=kr s 4 h1 (by omega)
 generalize bx:pkV s 4=C at a1 b1 P1
 have aF:=ze bx
 clear bx
 obtain⟨a2,b2,P2⟩:=kr le 100 h2 (by omega)
 generalize bz:pkV le 100=D at a2 b2 P2
 have aG:=ze bz
 clear bz
 obtain⟨a3,b3,P3⟩:=kr la 101 h3 (by omega)
 generalize bA:pkV la 101=Q at a3 b3 P3
 have aH:=ze bA
 clear bA
 obtain⟨a4,b4,P4⟩:=kr wi 50 h4 (by omega)
 generalize bB:pkV wi 50=d at a4 b4 P4
 have aI:=ze bB
 clear bB
 obtain⟨a5,b5,P5⟩:=kr ke 1001 h5 (by omega)
 generalize bC:pkV ke 1001=R at a5 b5 P5
 have aJ:=ze bC
 clear bC
 obtain⟨a6,b6,P6⟩:=kr qu 400 h6 (by omega)
 generalize bD:pkV qu 400=G at a6 b6 P6
 have aK:=ze bD
 clear bD
 obtain⟨y0,y1,L,yz⟩:=box2 w (.cells #[I s,I le,I la,I wi,I ke,I qu,.slice a n cap] 27) zjZ
 have b0:=fun W=>ze (P1 W)
 have b7:=fun W=>ze (P2 W)
 have b8:=fun W=>ze (P3 W)
 have b9:=fun W=>ze (P4 W)
 have S:=fun W=>ze (P5 W)
 have ba:=fun W=>ze (P6 W)
 clear P1 P2 P3 P4 P5 P6 h1 h2 h3 h4 h5 h6
 have hl:=zd y0
 obtain⟨c0,c1,c2,c3,c4,c5,-⟩:=zc y0
 have bT:=ze bH
 have Y0:=ze y0
 have Y1:=ze y1
 have aU:=ze L
 have YZ:=ze yz
 clear y0 y1 L yz bH
 have e1:IntKind.i64.wrap (1+C)=1+C:=by rw[IntKind.wrap_i64];omega
 have e2:IntKind.i64.wrap (1+D)=1+D:=by rw[IntKind.wrap_i64];omega
 have e4:IntKind.i64.wrap (1+d)=1+d:=by rw[IntKind.wrap_i64];omega
 have e6:IntKind.i64.wrap (1+G)=1+G:=by rw[IntKind.wrap_i64];omega
 have HF:=ze hF
 have HW:=ze hW
 have bN:=ze hK
 clear hF hW hK
 go_enter func37,ntmps37
 go_wp2_with fail
 generalize((w.alloc (.cells #[I s,I le,I la,I wi,I ke,I qu,.slice a n cap] 27)).alloc zjZ)=X at*
 rename_i K1 hK1
 refine(fun bi:K1 ?aa ?ww=>?main) ?hc
 case main=>
  go_region_held3 (fun w'=>w'.cell? (U w.1.size 0)=J (I s)/\w'.cell? (U w.1.size 1)=J (I le)/\w'.cell? (U w.1.size 2)=J (I la)/\w'.cell? (U w.1.size 3)=J (I wi)/\w'.cell? (U w.1.size 4)=J (I ke)/\w'.cell? (U w.1.size 5)=J (I qu)) (go_keep) (first
   |(go_at_call 31;(first|(with_reducible refine(ud (b0 _)).mono ?_)|(with_reducible refine(ud (b7 _)).mono ?_)|(with_reducible refine(ud (b8 _)).mono ?_)|(with_reducible refine(ud (b9 _)).mono ?_)|(with_reducible refine(ud (S _)).mono ?_)|(with_reducible refine(ud (ba _)).mono ?_));rintro e W ⟨rfl,hw⟩;subst hw))
  all_goals exact bi
 case hc=>
  refine hK1 _ _ ?_
  clear b0 b7 b8 b9 S ba c0 c1 c2 c3 c4 c5 hK1 e1 e2 e4 e6
  have q0:=zp X (.cells #[I (1+C),I (1+D),I Q,I (1+d),I R,I (1+G),.slice none 0 0] 27)
  have qz:=zN X (.cells #[I (1+C),I (1+D),I Q,I (1+d),I R,I (1+G),.slice none 0 0] 27)
  have bm:Below X.1.size X (X.alloc (.cells #[I (1+C),I (1+D),I Q,I (1+d),I R,I (1+G),.slice none 0 0] 27)).drew:=((Below.refl _ _).alloc (Nat.le_refl _) _).drew
  have bs:(X.alloc (.cells #[I (1+C),I (1+D),I Q,I (1+d),I R,I (1+G),.slice none 0 0] 27)).drew.1[X.1.size]?=J (.cells #[I (1+C),I (1+D),I Q,I (1+d),I R,I (1+G),.slice none 0 0] 27 (0,0)):=q0
  generalize(X.alloc (.cells #[I (1+C),I (1+D),I Q,I (1+d),I R,I (1+G),.slice none 0 0] 27)).drew=Y at*
  have bK:=ze bm
  have bO:=ze bs
  clear q0 qz bm bs
  go_wp2_with fail
  go_loopw [4,5,6,7] (fun i x f v wr=>∃(k:Nat) (F W K:Nat->Int) (tv:Value),k<=4/\k<=n/\i=I k/\wr.1[X.1.size]?=J (.cells #[I (1+C),I (1+D),I Q,I (1+d),I R,I (1+G),tv] 27 (0,0))/\wr.ownsRow X.1.size 80 3 tv k (ZN k F W K)/\vL (1+d) k F W K/\zah (1+d) F0 W0 K0 k=(F,W,K)/\Below X.1.size X wr) (fun i _ _ _ _=>n-(intOf i).toNat)
  case atStart=>exact⟨0,fun _=>0,fun _=>0,fun _=>0,.slice none 0 0,by omega,by omega,rfl,ud bO,World.ownsRow_nil _ _ _ _,vL.none _ _ _ _,rfl,ud bK⟩
  case round=>
   obtain⟨k,F,W,K,tv,ci,cj,rfl,M,l,y,bq,T⟩:=hrel
   have af:=ze bq
   clear bq
   obtain⟨ta,tc,bZ⟩:=zS l
   subst bZ
   have L:Below w.1.size w wr:=(ud aU).trans (T.mono (ud aU).size)
   have ae:=(T.block w.1.size hl).trans (ud Y0)
   obtain⟨-,-,-,-,-,-,z6,-⟩:=zc ae
   obtain⟨v0,v1,v2,v3,v4,v5,v6,-⟩:=zc M
   have vf:=fun j=>zv M j
   have bw:=zd M
   have bE:=zd ae
   have c8:(k:Int)<=4:=by omega
   by_cases aC:k<n
   ·have cd:(k:Int)<n:=by omega
    by_cases ck:k<4
    ·have ca:(k:Int)<4:=by omega
     obtain⟨b,aR,rfl,am,bp⟩:=ud bT (by omega)
     obtain⟨x0,x1,x2⟩:=bp k aC
     have y0:=(L.cell (p:=(U b (aR+k*3))) am).trans x0
     have y1:=(L.cell (p:=(U b (aR+k*3+1))) am).trans x1
     have y2:=(L.cell (p:=(U b (aR+k*3+2))) am).trans x2
     have c7:=Nat.lt_of_lt_of_le am L.size
     obtain⟨f0,f1,PF⟩:=kr (F0 k) (k+1) (ud HF k aC) (by omega)
     generalize br:pkV (F0 k) ((k:Int)+1)=f at f0 f1 PF
     have aW:=ze br
     clear br
     have bb:=fun W=>ze (PF W)
     clear bp x0 x1 x2 PF am
     generalize bU:F0 k=fk at*
     generalize bk:W0 k=wk at*
     generalize bj:K0 k=kk at*
     have aV:=ze bU
     have bh:=ze bk
     have aX:=ze bj
     have aQ:=ud HW k aC
     have aO:=ud bN k aC
     rw[bk]at aQ
     rw[bj]at aO
     have bI:X.1.size<=wr.1.size:=T.size
     have aY:Hid (∀j,(Value.slice ta k tc).ownBlock=J j->X.1.size<=j):=fun j hj=>(l.lt j hj).1
     have ay:=ze (zr M l (by decide))
     have aZ:Hid (∀j,(Value.slice ta k tc).ownBlock=J j->¬j=wr.1.size):=fun j hj e=>by have:=(l.lt j hj).2;omega
     have ux:=zp wr (.cells #[I fk,I wk,I kk] 80)
     have uz:=zN wr (.cells #[I fk,I wk,I kk] 80)
     have al:Below wr.1.size wr (wr.alloc (.cells #[I fk,I wk,I kk] 80)):=(Below.refl _ _).alloc (Nat.le_refl _) _
     have bf:=ze (zR l al)
     have uh:=(al.block X.1.size bw).trans M
     have be:=ze uh
     have bg:=ze ux
     have bd:=ze (T.trans (al.mono bI))
     have Z:Hid (X.1.size<=(wr.alloc (.cells #[I fk,I wk,I kk] 80)).1.size):=E bI al.size
     obtain⟨-,-,-,-,-,-,u6,-⟩:=zc uh
     have uf:=fun j=>zv uh j
     obtain⟨-,cm,cn,-⟩:=zc ux
     have ul:X.1.size<(wr.alloc (.cells #[I fk,I wk,I kk] 80)).1.size:=zd uh
     have co:wr.1.size<(wr.alloc (.cells #[I fk,I wk,I kk] 80)).1.size:=zd ux
     clear al ux uh uz
     have aL:f=0\/∃j:Nat,f=(j:Int)+1:=by
      by_cases e0:f=0
      ·exact .inl e0
      ·exact .inr ⟨(f-1).toNat,by omega⟩
     rcases aL with rfl|⟨j,rfl⟩
     ·go_wp2_with(first|(go_at_call 31;refine(ud (bb _)).mono ?_;rintro e W1 ⟨rfl,P⟩;subst P))
      generalize(wr.alloc (.cells #[I fk,I wk,I kk] 80))=U9 at*
      have m:zP (1+d) W (-1)=(1+d):=by simp[zP]
      have ax:=y.wh (wi:=1+d) ⟨by omega,by omega⟩ (f:= -1) (by omega) (by omega)
      rw[m]at ax
      obtain⟨P,aw⟩:=ax
      have ar:0<1000/(1+d):=zdD 1000 (1+d) P aw
      obtain⟨q0,q1,PQ⟩:=kr wk (1000/(1+d)) aQ ar
      generalize au:pkV wk (1000/(1+d))=V at q0 q1 PQ
      obtain⟨k0,k1,PK⟩:=kr kk 1001 aO (by omega)
      generalize aq:pkV kk 1001=rk at k0 k1 PK
      have ah:=ze (zaz (ud af) (ud aV) (ud bh) (ud aX) (ud aW) (f:= -1) (by omega) m au aq)
      clear au aq
      have aD:=fun W=>ze (PQ W)
      have aE:=fun W=>ze (PK W)
      have aP:1000/(1+d)<=1000:=Int.ediv_le_self _ (by omega)
      have c6:IntKind.i64.wrap (1000/(1+d))=1000/(1+d):=by rw[IntKind.wrap_i64];omega
      have ab:(1+d)*(1+V)<=1000:=Int.le_trans (Int.mul_le_mul_of_nonneg_left (by omega) (by omega)) (Int.mul_ediv_self_le (by omega))
      have N:1<=(1+d)*(1+V):=Int.le_trans (by omega) (Int.mul_le_mul P (show 1<=1+V by omega) (by omega) (by omega))
      have m1:IntKind.i64.wrap (1+V)=1+V:=by rw[IntKind.wrap_i64];omega
      have m2:IntKind.i64.wrap ((1+d)*(1+V))=(1+d)*(1+V):=by generalize(1+d)*(1+V)=z at*;rw[IntKind.wrap_i64];omega
      have bu:¬(1+d)=0:=by omega
      have ai:=ze (y.more (f:= -1) (q:=1+V) (p:=rk) (by omega) (by omega) (by omega) (by rw[m];exact N) (by rw[m];exact ab) ⟨k0,by omega⟩)
      rw[m]at ai
      have bY:Int.tdiv 1000 ((1+d))=1000/(1+d):=Int.tdiv_eq_ediv_of_nonneg (by omega)
      clear PQ PK ar aP ab N P aw q0 q1 k0 k1 m
      go_region_law (first
       |(refine ZF rfl (.tmp 68) (.tmp 70) _ rfl _ _ (by rfl) (by rfl) _ (ud (aD _)) ?_)
       |(refine ZF rfl (.tmp 75) (.const (I 1001)) _ rfl _ _ (by rfl) (by rfl) _ (ud (aE _)) ?_)
       |(refine vs rfl (.tmp 64) (.tmp 78) 25 80 3 24 rfl underlying25 Tryz.infoTierR rfl (by decide) X.1.size (.slice ta k tc) k (ZN k F W K) (by rfl) (Ky ((ud bf).alloc _)) U9.1.size [I (-1),I ((1+d)*(1+V)),I rk] 80 (0,0) (by rfl) (Ku U9 _) rfl (by simp[Value.oneCell']) ?h63 ?hby ?hbs ?_;(case h63=>(simp only[maxLen];omega));(case hby=>omega);(case hbs=>exact E (ud Z) (zgZ _ _));intro g3 a8 w5 u o aj bt;have r:zh (fun k'=>(Value.slice ta k tc).ownBlock=J k') U9 w5:=zh.grown ((zh.refl _ _).alloc _) (QS o) (fun k hk _=>hk);have h:=r.heap (ud be) (fun e=>ud ay _ e rfl);have ac:=r.heap (ud bg) (fun e=>ud aZ _ e rfl);obtain⟨-,-,-,-,-,-,d6,-⟩:=zc h;have df:=fun j=>zv h j;obtain⟨-,d1,d2,-⟩:=zc ac;have dl:X.1.size<w5.1.size:=zd h;have dx:wr.1.size<w5.1.size:=zd ac;have ad:¬wr.1.size=X.1.size:=(by omega);have a7:=ze u;have ag:=ze r;have S:=ze h;clear u r h ac o aj))
      all_goals
       go_wp2_with fail
       go_roundw
       case rel=>
        have ap:zh (fun k=>k=X.1.size) w5 (w5.setCell (U X.1.size 6) (.slice (J (U g3 0)) (k+1) a8)):=zg (zh.refl _ _) rfl
        have ho:=ud a7
        refine⟨k+1,_,_,_,.slice (J (U g3 0)) (k+1) a8,by omega,by omega,by go_num,xy (i:=6) (ud S) _,?_,ud ai,ud ah,?_⟩
        ·rw[Kv];exact zi ho ap (zr (ud S) ho (by decide))
        ·have ak:=(ud ag).below (B:=X.1.size) (ud Z) (fun k hk=>ud aY k hk)
         exact(ud bd).trans (ak.trans (ap.below (E (ud Z) ak.size) (fun k e=>by omega)))
       case measure=>simp[intOf];omega
     ·have cp:IntKind.i64.wrap ((j:Int)+1-1)=j:=by rw[IntKind.wrap_i64];omega
      have cg:(0:Int)<=j:=by omega
      have ch:(j:Int)<k:=by omega
      obtain⟨g,gc,ao,_,aM⟩:=l.form (by omega)
      cases ao
      have gw:wr.cell? (U g (j*3+1))=J (I (W j)):=by rw[l.cellAt (j*3+1) (by omega),JQ _ _ _ _ _ (by omega),zhq]
      have cf:(wr.alloc (.cells #[I fk,I wk,I kk] 80)).cell? (U g (j*3+1))=J (I (W j)):=(((Below.refl wr.1.size wr).alloc (Nat.le_refl _) _).cell (p:=(U g (j*3+1))) aM).trans gw
      go_wp2_with(first|(go_at_call 31;refine(ud (bb _)).mono ?_;rintro e W1 ⟨rfl,P⟩;subst P))
      generalize(wr.alloc (.cells #[I fk,I wk,I kk] 80))=U9 at*
      have m:zP (1+d) W (j)=W j:=by unfold zP;rw[if_neg (by omega)];simp
      have ax:=y.wh (wi:=1+d) ⟨by omega,by omega⟩ (f:=j) (by omega) (by omega)
      rw[m]at ax
      obtain⟨P,aw⟩:=ax
      have ar:0<1000/(W j):=zdD 1000 (W j) P aw
      obtain⟨q0,q1,PQ⟩:=kr wk (1000/(W j)) aQ ar
      generalize au:pkV wk (1000/(W j))=V at q0 q1 PQ
      obtain⟨k0,k1,PK⟩:=kr kk 1001 aO (by omega)
      generalize aq:pkV kk 1001=rk at k0 k1 PK
      have ah:=ze (zaz (ud af) (ud aV) (ud bh) (ud aX) (ud aW) (f:=j) (by omega) m au aq)
      clear au aq
      have aD:=fun W=>ze (PQ W)
      have aE:=fun W=>ze (PK W)
      have aP:1000/(W j)<=1000:=Int.ediv_le_self _ (by omega)
      have c6:IntKind.i64.wrap (1000/(W j))=1000/(W j):=by rw[IntKind.wrap_i64];omega
      have ab:(W j)*(1+V)<=1000:=Int.le_trans (Int.mul_le_mul_of_nonneg_left (by omega) (by omega)) (Int.mul_ediv_self_le (by omega))
      have N:1<=(W j)*(1+V):=Int.le_trans (by omega) (Int.mul_le_mul P (show 1<=1+V by omega) (by omega) (by omega))
      have m1:IntKind.i64.wrap (1+V)=1+V:=by rw[IntKind.wrap_i64];omega
      have m2:IntKind.i64.wrap ((W j)*(1+V))=(W j)*(1+V):=by generalize(W j)*(1+V)=z at*;rw[IntKind.wrap_i64];omega
      have bu:¬(W j)=0:=by omega
      have ai:=ze (y.more (f:=j) (q:=1+V) (p:=rk) (by omega) (by omega) (by omega) (by rw[m];exact N) (by rw[m];exact ab) ⟨k0,by omega⟩)
      rw[m]at ai
      have bY:Int.tdiv 1000 (W j)=1000/(W j):=Int.tdiv_eq_ediv_of_nonneg (by omega)
      clear PQ PK ar aP ab N P aw q0 q1 k0 k1 m
      go_region_law (first
       |(refine ZF rfl (.tmp 68) (.tmp 70) _ rfl _ _ (by rfl) (by rfl) _ (ud (aD _)) ?_)
       |(refine ZF rfl (.tmp 75) (.const (I 1001)) _ rfl _ _ (by rfl) (by rfl) _ (ud (aE _)) ?_)
       |(refine vs rfl (.tmp 64) (.tmp 78) 25 80 3 24 rfl underlying25 Tryz.infoTierR rfl (by decide) X.1.size (.slice (J (U g 0)) k tc) k (ZN k F W K) (by rfl) (Ky ((ud bf).alloc _)) U9.1.size [I (j),I ((W j)*(1+V)),I rk] 80 (0,0) (by rfl) (Ku U9 _) rfl (by simp[Value.oneCell']) ?h63 ?hby ?hbs ?_;(case h63=>(simp only[maxLen];omega));(case hby=>omega);(case hbs=>exact E (ud Z) (zgZ _ _));intro g3 a8 w5 u o aj bt;have r:zh (fun k'=>(Value.slice (J (U g 0)) k tc).ownBlock=J k') U9 w5:=zh.grown ((zh.refl _ _).alloc _) (QS o) (fun k hk _=>hk);have h:=r.heap (ud be) (fun e=>ud ay _ e rfl);have ac:=r.heap (ud bg) (fun e=>ud aZ _ e rfl);obtain⟨-,-,-,-,-,-,d6,-⟩:=zc h;have df:=fun j=>zv h j;obtain⟨-,d1,d2,-⟩:=zc ac;have dl:X.1.size<w5.1.size:=zd h;have dx:wr.1.size<w5.1.size:=zd ac;have ad:¬wr.1.size=X.1.size:=(by omega);have a7:=ze u;have ag:=ze r;have S:=ze h;clear u r h ac o aj))
      all_goals
       go_wp2_with fail
       go_roundw
       case rel=>
        have ap:zh (fun k=>k=X.1.size) w5 (w5.setCell (U X.1.size 6) (.slice (J (U g3 0)) (k+1) a8)):=zg (zh.refl _ _) rfl
        have ho:=ud a7
        refine⟨k+1,_,_,_,.slice (J (U g3 0)) (k+1) a8,by omega,by omega,by go_num,xy (i:=6) (ud S) _,?_,ud ai,ud ah,?_⟩
        ·rw[Kv];exact zi ho ap (zr (ud S) ho (by decide))
        ·have ak:=(ud ag).below (B:=X.1.size) (ud Z) (fun k hk=>ud aY k hk)
         exact(ud bd).trans (ak.trans (ap.below (E (ud Z) ak.size) (fun k e=>by omega)))
       case measure=>simp[intOf];omega
    ·have c9:decide ((k:Int)<4)=false:=by simp;omega
     have O:=(T.block (w.1.size+1) (by have:=ud YZ;omega)).trans (ud Y1)
     obtain⟨t0,t1,t2,t3,t4,t5,t6,-⟩:=zc O
     have tf:=fun j=>zv O j
     have tl:=zd O
     have az:=ze O
     have a0:=ze l
     have bM:=ze M
     have aT:=ze T
     have t:=ze L
     have aA:=ze y
     clear O l T L y ae
     by_cases aB:k=0
     ·exfalso;omega
     ·have bW:((k:Int)==0)=false:=by simp;omega
      clear M
      go_wp2_with fail
      have hf:=zom (ud az) (I (1+C)) (I (1+D)) (I Q) (I (1+d)) (I R) (I (1+G)) (.slice ta k tc)
      have a9:zh (fun k=>k=w.1.size+1) wr (((((((wr.setCell (U (w.1.size+1) 0) (I (1+C))).setCell (U (w.1.size+1) 1) (I (1+D))).setCell (U (w.1.size+1) 2) (I Q)).setCell (U (w.1.size+1) 3) (I (1+d))).setCell (U (w.1.size+1) 4) (I R)).setCell (U (w.1.size+1) 5) (I (1+G))).setCell (U (w.1.size+1) 6) (.slice ta k tc)):=zg (zg (zg (zg (zg (zg (zg (zh.refl _ _) rfl) rfl) rfl) rfl) rfl) rfl) rfl
      refine bodyPost_ret (v:=.agg #[I (1+C),I (1+D),I Q,I (1+d),I R,I (1+G),.slice ta k tc]) (results_cell_row results37 _ _ (w.1.size+1) _ _ _ _ rfl hf underlying27 rfl (by kernel_rfl)) rfl ?_
      have A:=ud a0
      obtain⟨g,gc,ao,_,aM⟩:=A.form (by omega)
      cases ao
      have bJ:X.1.size=w.1.size+2:=ud YZ
      obtain⟨k1,k2⟩:=JN (c:=⟨1+C,1+D,Q,1+d,R,1+G,k,F,W,K⟩) (by dsimp only;omega) (by dsimp only;omega) (by dsimp only;omega) (by dsimp only;omega) (by dsimp only;omega) (by dsimp only;omega) (by dsimp only;omega) (ud aA)
      exact⟨⟨1+C,1+D,Q,1+d,R,1+G,k,F,W,K⟩,g,tc,zhr (ud aF) (ud aG) (ud aH) (ud aI) (ud aJ) (ud aK) (by omega) aB (ud af),k1,k2,rfl,kq (zi A a9 (fun j hj e=>by have:=(A.lt j hj).1;omega)) (by omega),(ud t).trans (a9.below (ud t).size (fun j e=>by omega))⟩
   ·have cc:decide ((k:Int)<n)=false:=by simp;omega
    have O:=(T.block (w.1.size+1) (by have:=ud YZ;omega)).trans (ud Y1)
    obtain⟨t0,t1,t2,t3,t4,t5,t6,-⟩:=zc O
    have tf:=fun j=>zv O j
    have tl:=zd O
    have az:=ze O
    have a0:=ze l
    have bM:=ze M
    have aT:=ze T
    have t:=ze L
    have aA:=ze y
    clear O l T L y ae
    by_cases aB:k=0
    ·subst aB
     have hA:=(Below.refl wr.1.size wr).alloc (Nat.le_refl _) (.cells #[I (-1),I (1+d),I 0] 80)
     have bc:=ze ((ud a0).alloc (.cells #[I (-1),I (1+d),I 0] 80))
     have aN:=(hA.block X.1.size bw).trans M
     have bP:=ze (World.news_of_block (cs:=#[I (-1),I (1+d),I 0]) (zp wr (.cells #[I (-1),I (1+d),I 0] 80)))
     have bn:X.1.size<=(wr.alloc (.cells #[I (-1),I (1+d),I 0] 80)).1.size:=E (ud aT).size hA.size
     have aS:=ze hA
     have bL:=ze aN
     have ay:=ze (zr aN (ud bc) (by decide))
     have bF:=(hA.block (w.1.size+1) tl).trans (ud az)
     have bS:=ze bF
     have bQ:Hid (∀j,(Value.slice ta 0 tc).ownBlock=J j->¬j=w.1.size+1):=fun j hj e=>by have:=((ud a0).lt j hj).1;have:=ud YZ;omega
     have ad:¬w.1.size+1=X.1.size:=by have:=ud YZ;omega
     have ce:¬X.1.size=w.1.size+1:=fun e=>ad e.symm
     have bo:(0+1)*24<=140737488355328:=by omega
     have bX:0+1<=maxLen:=by simp only[maxLen];omega
     clear hA aN bF M
     go_wp2_with(first|(at_builtin;refine xM rfl _ _ 25 rfl X.1.size 80 _ 3 24 underlying25 Tryz.infoTierR rfl (by decide) (.slice ta 0 tc) 0 (ZN 0 F W K) (by simp[Act.eval]) (ud bc) (U wr.1.size 0) 1 1 [I (-1),I (1+d),I 0] (by simp[Act.eval]) rfl (ud bP) (by simp[Value.oneCell']) (by decide) bX bo bn ?_;intro g H w2 u bv an aj cb;have r:zh (fun k'=>(Value.slice ta 0 tc).ownBlock=J k') (wr.alloc (.cells #[I (-1),I (1+d),I 0] 80)) w2:=zh.grown (zh.refl _ _) an (fun k hk _=>hk);have h:=r.heap (ud bL) (fun e=>ud ay _ e rfl);have av:=r.heap (ud bS) (fun e=>ud bQ _ e rfl);obtain⟨d0,d1,d2,d3,d4,d5,d6,-⟩:=zc h;have df:=fun j=>zv h j;obtain⟨t0,t1,t2,t3,t4,t5,t6,-⟩:=zc av;have tf:=fun j=>zv av j;have dl:=zd h;have cl:=zd av;have a7:=ze u;have ag:=ze r;have S:=ze h;have bR:=ze av;clear u bv an aj r h av)|go_in)
     have bV:zh (fun k=>k=X.1.size) w2 (w2.setCell (U X.1.size 6) (.slice (J (U g 0)) (0+1) H)):=zg (zh.refl _ _) rfl
     have hf:=zom (bV.heap (ud bR) ad) (I (1+C)) (I (1+D)) (I Q) (I (1+d)) (I R) (I (1+G)) (.slice (J (U g 0)) (0+1) H)
     have a9:zh (fun k=>k=X.1.size\/k=w.1.size+1) w2 ((((((((w2.setCell (U X.1.size 6) (.slice (J (U g 0)) (0+1) H)).setCell (U (w.1.size+1) 0) (I (1+C))).setCell (U (w.1.size+1) 1) (I (1+D))).setCell (U (w.1.size+1) 2) (I Q)).setCell (U (w.1.size+1) 3) (I (1+d))).setCell (U (w.1.size+1) 4) (I R)).setCell (U (w.1.size+1) 5) (I (1+G))).setCell (U (w.1.size+1) 6) (.slice (J (U g 0)) (0+1) H)):=zg (zg (zg (zg (zg (zg (zg (zg (zh.refl _ _) (.inl rfl)) (.inr rfl)) (.inr rfl)) (.inr rfl)) (.inr rfl)) (.inr rfl)) (.inr rfl)) (.inr rfl)
     refine bodyPost_ret (v:=.agg #[I (1+C),I (1+D),I Q,I (1+d),I R,I (1+G),.slice (J (U g 0)) (0+1) H]) (results_cell_row results37 _ _ (w.1.size+1) _ _ _ _ rfl hf underlying27 rfl (by kernel_rfl)) rfl ?_
     have A:=ud a7
     have bJ:X.1.size=w.1.size+2:=ud YZ
     have m:zP (1+d) W (-1)*1=1+d:=by simp[zP]
     have bG:=(ud aA).more (f:= -1) (q:=1) (p:=0) (by omega) (by omega) (by omega) (by rw[m];omega) (by rw[m];omega) (by omega)
     rw[m]at bG
     obtain⟨k1,k2⟩:=JN (c:=⟨1+C,1+D,Q,1+d,R,1+G,0+1,Zp F 0 (-1),Zp W 0 (1+d),Zp K 0 0⟩) (by dsimp only;omega) (by dsimp only;omega) (by dsimp only;omega) (by dsimp only;omega) (by dsimp only;omega) (by dsimp only;omega) (by dsimp only;omega) bG
     rw[<-Kv]at A
     have bE:∀j,(Value.slice (J (U g 0)) (0+1) H).ownBlock=J j->X.1.size<j:=fun j hj=>by
      have h1:=(A.lt j hj).1
      have h2:=zr (ud S) A (by decide) j hj
      omega
     have bl:Below w.1.size w w2:=(ud t).trans (((ud aS).mono (ud t).size).trans ((ud ag).below (E (ud t).size (ud aS).size) (fun j hj=>by have:=((ud a0).lt j hj).1;omega)))
     exact⟨⟨1+C,1+D,Q,1+d,R,1+G,0+1,Zp F 0 (-1),Zp W 0 (1+d),Zp K 0 0⟩,g,H,zkw (ud aF) (ud aG) (ud aH) (ud aI) (ud aJ) (ud aK) (by omega) (ud af),k1,k2,rfl,kq (zi A a9 (fun j hj e=>by have:=bE j hj;omega)) (by omega),bl.trans (a9.below bl.size (fun j e=>by omega))⟩
    ·have bW:((k:Int)==0)=false:=by simp;omega
     clear M
     go_wp2_with fail
     have hf:=zom (ud az) (I (1+C)) (I (1+D)) (I Q) (I (1+d)) (I R) (I (1+G)) (.slice ta k tc)
     have a9:zh (fun k=>k=w.1.size+1) wr (((((((wr.setCell (U (w.1.size+1) 0) (I (1+C))).setCell (U (w.1.size+1) 1) (I (1+D))).setCell (U (w.1.size+1) 2) (I Q)).setCell (U (w.1.size+1) 3) (I (1+d))).setCell (U (w.1.size+1) 4) (I R)).setCell (U (w.1.size+1) 5) (I (1+G))).setCell (U (w.1.size+1) 6) (.slice ta k tc)):=zg (zg (zg (zg (zg (zg (zg (zh.refl _ _) rfl) rfl) rfl) rfl) rfl) rfl) rfl
     refine bodyPost_ret (v:=.agg #[I (1+C),I (1+D),I Q,I (1+d),I R,I (1+G),.slice ta k tc]) (results_cell_row results37 _ _ (w.1.size+1) _ _ _ _ rfl hf underlying27 rfl (by kernel_rfl)) rfl ?_
     have A:=ud a0
     obtain⟨g,gc,ao,_,aM⟩:=A.form (by omega)
     cases ao
     have bJ:X.1.size=w.1.size+2:=ud YZ
     obtain⟨k1,k2⟩:=JN (c:=⟨1+C,1+D,Q,1+d,R,1+G,k,F,W,K⟩) (by dsimp only;omega) (by dsimp only;omega) (by dsimp only;omega) (by dsimp only;omega) (by dsimp only;omega) (by dsimp only;omega) (by dsimp only;omega) (ud aA)
     exact⟨⟨1+C,1+D,Q,1+d,R,1+G,k,F,W,K⟩,g,tc,zhr (ud aF) (ud aG) (ud aH) (ud aI) (ud aJ) (ud aK) (by omega) aB (ud af),k1,k2,rfl,kq (zi A a9 (fun j hj e=>by have:=(A.lt j hj).1;omega)) (by omega),(ud t).trans (a9.below (ud t).size (fun j e=>by omega))⟩
end Go.Proofs.YtndhpgciopcncaaGreatDoor
