import Derived.Test.YtndhpgciopcncaaGreatDoorXMlz4
open Nat renaming le_refl → E
set_option linter.unusedVariables false
set_option maxRecDepth 20000
set_option maxHeartbeats 8000000
open Go.Proofs.Tryz
namespace Go.Proofs.YtndhpgciopcncaaGreatDoor
open Go.RowKit Go.Maps Go.Shelf
open Go.ChangeMaps (setBlock)
def jq(v:SV):Cl×Int:=if v.st=0 then(qL,10)else if v.st=2 then(qL,11)else if v.st=4 then(qL,12)else(v.cl,0)
def kQ(c:Cf)(now:Int)(Gl:List (Sg×Unit))(L:LV)(t se we:Int):Cl×Int:=
 if now-c.la<(we+1)*c.wh t then(qL,9)else jq (stG Gl L ⟨t,se,we⟩)
theorem znV{dn:Bool}{w:World}{i:Ids}{c:Cf}{ep:Int}{m:MS}(h:qk dn w i c ep m)(hc:c.ok)(P:0<=m.now/\m.now<=100000)(t se we:Int)(ht: -1<=t/\t<c.n)(Q:0<=se/\se<4)(T:0<=we/\we<=100000):
  Calls prog 57 #[(O i.x),I t,I se,I we] w (Rz w (.tuple #[.agg #[I (kQ c m.now m.Gl m.L t se we).1.cnt,I (kQ c m.now m.Gl m.L t se we).1.sum,i_ (kQ c m.now m.Gl m.L t se we).1.mn,i_ (kQ c m.now m.Gl m.L t se we).1.mx],I (kQ c m.now m.Gl m.L t se we).2])):=by
 obtain⟨a,cap,a4,R⟩:=h.ts;have a8:=h.lt;have z:B_ w (w.alloc kq):=(Below.refl _ _).alloc (E _) _;obtain⟨c0,c1,c2,c3,c4,c5,c6,-,c8,c9,-⟩:=(h.later z).cells;rw[a4]at c6;have s:=ze z;have d:=ze (zo w kq);have b:w.1.size<(w.alloc kq).1.size:=by rw[zE];omega
 have r:i.x<(w.alloc kq).1.size:=by rw[zE];omega
 have HH:=ze (zeH c hc a cap t (w.alloc kq));have a6:=hc.n4;rw[show inB t (-1) ((c.n:Int)-1)=true from by rw[qZ];omega]at HH
 have HS:=fun W=>ze (jF se W Q);have a9:decide (we<0)=false:=by simp;omega
 have aa:decide (100000<we)=false:=by simp;omega
 have X:=fun(W:World) (hb:Below (w.alloc kq).1.size (w.alloc kq) W)=>ze (KI c hc a cap t we m.now ht.1 ht.2 T P W.drew (R.below (z.trans (hb.mono z.size)).drew));have S:(⟨t,se,we⟩:Sg).wf:=by refine⟨?_,?_,?_⟩<;>unfold xX<;>simp only<;>omega
 have M:=fun(W:World) (hb:Below (w.alloc kq).1.size (w.alloc kq) W)=>ze (zbO ((h.later z).later hb).set ⟨t,se,we⟩ S);have K9:=c9;clear z h R S;by_cases Y:m.now-c.la<(we+1)*c.wh t;case' pos=>
  rw[show kQ c m.now m.Gl m.L t se we=(qL,9)from by unfold kQ;rw[if_pos Y]]
  rw[show decide ((we+1)*c.wh t<=m.now-c.la)=false from by simp;omega]at X
  clear Y
 case' neg=>
  rw[show kQ c m.now m.Gl m.L t se we=jq (stG m.Gl m.L ⟨t,se,we⟩)from by unfold kQ;rw[if_neg Y]]
  rw[show decide ((we+1)*c.wh t<=m.now-c.la)=true from by simp;omega]at X
  unfold clV at M;dsimp only at M;generalize stG m.Gl m.L ⟨t,se,we⟩=v at*;clear Y;by_cases A:v.st=0;case' pos=>
   rw[show jq v=(qL,10)from by unfold jq;rw[if_pos A]]
   have q6:(v.st==0)=true:=(by simp[A]);clear A
  case' neg=>
   have q6:(v.st==0)=false:=(by simp[A]);by_cases G:v.st=2;case' pos=>
    rw[show jq v=(qL,11)from by unfold jq;rw[if_neg A,if_pos G]]
    have q7:(v.st==2)=true:=(by simp[G]);clear A G
   case' neg=>
    have q7:(v.st==2)=false:=(by simp[G]);by_cases H:v.st=4;case' pos=>
     rw[show jq v=(qL,12)from by unfold jq;rw[if_neg A,if_neg G,if_pos H]]
     have q8:(v.st==4)=true:=(by simp[H]);clear A G H
    case' neg=>
     have q8:(v.st==4)=false:=(by simp[H]);rw[show jq v=(v.cl,0)from by unfold jq;rw[if_neg A,if_neg G,if_neg H]]
     clear A G H
 all_goals
  go_in
  go_wp2_with(first|(go_at_call 116;refine HH.mono ?_;rintro e w1 ⟨rfl,f⟩;have m0:=(f.cell (p:=(U i.x 0)) r).trans c0;have m1:=(f.cell (p:=(U i.x 1)) r).trans c1;have m2:=(f.cell (p:=(U i.x 2)) r).trans c2;have m3:=(f.cell (p:=(U i.x 3)) r).trans c3;have m4:=(f.cell (p:=(U i.x 4)) r).trans c4;have m5:=(f.cell (p:=(U i.x 5)) r).trans c5;have m6:=(f.cell (p:=(U i.x 6)) r).trans c6;have m8:=(f.cell (p:=(U i.x 8)) r).trans c8;have m9:=(f.cell (p:=(U i.x 9)) r).trans c9;obtain⟨Z,y1,y2,y3,-⟩:=zc (((f.block w.1.size b).trans d));have yf:=fun j=>zI ((f.block w.1.size b).trans d) j;have C:=ze f)|(go_at_call 60;refine(HS _).mono ?_;rintro e W9 ⟨rfl,h9⟩;have a2:=h9.symm;subst a2))
  have a0:=X w1 C
  have a5:=Nat.lt_of_lt_of_le r C.size
  clear Z y1 y2 y3 yf f c0 c1 c2 c3 c4 c5 c6 c8 c9 X HS HH
  refine qP 10 (by kernel_rfl) (by kernel_rfl) ?_
  simp only[List.take_succ_cons,List.take_zero,List.drop_succ_cons,List.drop_zero]
  repeat still_step
  refine wpStill_nil ?_
  go_wp2_with(first|(go_at_call 117;refine a0.mono ?_;rintro e w3 ⟨rfl,a3⟩;have y:Below _ _ w3:=C.trans ((zqb a3).mono C.size);have n9:=(y.cell (p:=(U i.x 9)) r).trans K9;obtain⟨Z,y1,y2,y3,-⟩:=zc (((y.block w.1.size b).trans d));have yf:=fun j=>zI ((y.block w.1.size b).trans d) j;have u:=ze y))
 rotate_right
 ·clear M;have D:=(u.block w.1.size b).trans d;have F:=YG D (I 0) (I 0) (i_ 0) (i_ 0);refine bodyPost_ret (v:=.tuple #[.agg #[I 0,I 0,i_ 0,i_ 0],I 9]) (zn results57 _ _ w.1.size _ _ _ _ _ rfl rfl F underlying115 rfl (by kernel_rfl)) rfl ?_;exact⟨rfl,s.trans ((u.mono s.size).trans (below4 (E _) _ _ _ _))⟩
 all_goals
  have a1:=M w3 u
  clear M Z y1 y2 y3 yf
  refine a1.mono ?_
  rintro e V ⟨rfl,N⟩
  have l:=u.trans (N.mono u.size)
  obtain⟨Z,-⟩:=zc (((l.block w.1.size b).trans d))
  obtain⟨-,y1,-⟩:=zc (((l.block w.1.size b).trans d))
  obtain⟨-,-,y2,-⟩:=zc (((l.block w.1.size b).trans d))
  obtain⟨-,-,-,y3,-⟩:=zc (((l.block w.1.size b).trans d))
  have yf:=fun j=>zI ((l.block w.1.size b).trans d) j
  have a7:w.1.size<V.1.size:=Nat.lt_of_lt_of_le b l.size
  have k:=ze l
  clear N l
  go_wp2_with fail
 ·skip
  have D:=(k.block w.1.size b).trans d;have q:=YG D (I v.cl.cnt) (I v.cl.sum) (i_ v.cl.mn) (i_ v.cl.mx);have F:=(Below.heap_alloc _ (.cells #[I v.cl.cnt,I v.cl.sum,i_ v.cl.mn,i_ v.cl.mx] 115) _ (zd q)).trans q;have o:=s.trans ((k.mono s.size).trans (below4 (w:=V) (g:=w.1.size) (B:=w.1.size) (E _) (I v.cl.cnt) (I v.cl.sum) (i_ v.cl.mn) (i_ v.cl.mx)));refine bodyPost_ret (v:=.tuple #[.agg #[I v.cl.cnt,I v.cl.sum,i_ v.cl.mn,i_ v.cl.mx],I 0]) (zn results57 _ _ w.1.size _ _ _ _ _ rfl rfl F underlying115 rfl (by kernel_rfl)) rfl ?_;exact⟨rfl,o.alloc o.size _⟩
 ·skip
  have D:=(k.block w.1.size b).trans d;have q:=YG D (I 0) (I 0) (i_ 0) (i_ 0);have F:=(Below.heap_alloc _ (.cells #[I v.cl.cnt,I v.cl.sum,i_ v.cl.mn,i_ v.cl.mx] 115) _ (zd q)).trans q;have o:=s.trans ((k.mono s.size).trans (below4 (w:=V) (g:=w.1.size) (B:=w.1.size) (E _) (I 0) (I 0) (i_ 0) (i_ 0)));refine bodyPost_ret (v:=.tuple #[.agg #[I 0,I 0,i_ 0,i_ 0],I 12]) (zn results57 _ _ w.1.size _ _ _ _ _ rfl rfl F underlying115 rfl (by kernel_rfl)) rfl ?_;exact⟨rfl,o.alloc o.size _⟩
 ·skip
  have D:=(k.block w.1.size b).trans d;have q:=YG D (I 0) (I 0) (i_ 0) (i_ 0);have F:=(Below.heap_alloc _ (.cells #[I v.cl.cnt,I v.cl.sum,i_ v.cl.mn,i_ v.cl.mx] 115) _ (zd q)).trans q;have o:=s.trans ((k.mono s.size).trans (below4 (w:=V) (g:=w.1.size) (B:=w.1.size) (E _) (I 0) (I 0) (i_ 0) (i_ 0)));refine bodyPost_ret (v:=.tuple #[.agg #[I 0,I 0,i_ 0,i_ 0],I 11]) (zn results57 _ _ w.1.size _ _ _ _ _ rfl rfl F underlying115 rfl (by kernel_rfl)) rfl ?_;exact⟨rfl,o.alloc o.size _⟩
 ·skip
  have D:=(k.block w.1.size b).trans d;have q:=YG D (I 0) (I 0) (i_ 0) (i_ 0);have F:=(Below.heap_alloc _ (.cells #[I v.cl.cnt,I v.cl.sum,i_ v.cl.mn,i_ v.cl.mx] 115) _ (zd q)).trans q;have o:=s.trans ((k.mono s.size).trans (below4 (w:=V) (g:=w.1.size) (B:=w.1.size) (E _) (I 0) (I 0) (i_ 0) (i_ 0)));refine bodyPost_ret (v:=.tuple #[.agg #[I 0,I 0,i_ 0,i_ 0],I 10]) (zn results57 _ _ w.1.size _ _ _ _ _ rfl rfl F underlying115 rfl (by kernel_rfl)) rfl ?_;exact⟨rfl,o.alloc o.size _⟩
