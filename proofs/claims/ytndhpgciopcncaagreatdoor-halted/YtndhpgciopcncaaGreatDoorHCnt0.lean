import Derived.Test.YtndhpgciopcncaaGreatDoorHSum1
import Derived.Test.YtndhpgciopcncaaGreatDoorHSum3
import Derived.Laws.ResultCell
import Derived.Deep.RegionHeld3
open Nat renaming le_refl → E
open Go.RowKit.Below renaming refl → Q
open Option renaming some → G
open Go.RowKit renaming Below → R
open Nat renaming lt_of_lt_of_le → T
open Go renaming World → z9
open Go renaming Value → za
open Nat renaming le_trans → zb
open Go.Value (int)
open Go.IntKind (i32)
set_option linter.unusedVariables false
set_option maxRecDepth 100000
set_option maxHeartbeats 8000000
open Go.Proofs.Tryz
namespace Go.Proofs.YtndhpgciopcncaaGreatDoor
open Go.ChangeMaps (setBlock)
open Go.RowKit Go.Maps Go.Shelf
variable {c:Cf} {st:Int} {L:LV} {Bl Gl:List (Sg×Unit)} {ps:List SX} {B Bk Bp N b g gb l lb m n ob s:Nat} {ex f:Nat->Prop} {a:Option Addr} {P:Program} {k:Sg} {tv:za} {A W W' X w w':z9} {Kp:z9->z9->Prop}
theorem Yz(h:KX (fun _=>False) n m w W)(hn:w.1.size<=n):R w.1.size w W:=⟨h.kept.os,h.kept.tape,h.kept.output,h.kept.size,fun k a=>h.low (by omega) (fun e=>e) a⟩
theorem zpi(gf:Nat)(lb:Array za)(c:Nat)(a b:Array za)(w:z9):
  Calls prog 151 #[.func (.func gf) #[] lb,.func (.func c) a b] w fun e w'=>e=.returned (.func (.func 225) #[] #[(O w.1.size),(O (w.1.size+1))])/\w'=((w.alloc (.cells #[.func (.func gf) #[] lb] 150)).alloc (.cells #[.func (.func c) a b] 158)):=by
 go_enter func151,ntmps151;go_wp2_with fail;go_ret;exact⟨rfl,rfl⟩
theorem zpf:∀args w,(callFunc 225 args).run prog w=.ok (.enter 225 args) w:=enters_of func225 (by kernel_rfl) rfl
theorem zoB(x:SX)(w:z9):Calls prog 152 #[.agg (xZz x)] w (Rz w (I 1)):=by
 have a:R w.1.size w (w.alloc (.cells (xZz x) 148)):=(Q _ _).alloc (E _) _;go_enter func152,ntmps152;go_wp2_with fail;go_ret;first|exact⟨rfl,a⟩|exact⟨rfl,Q _ _⟩
theorem znK(gf:Nat)(lb:Array za)(r:∀args w,(callFunc gf args).run prog w=.ok (.enter gf args) w)(c:Nat)(a g:Array za)(s:∀args w,(callFunc c args).run prog w=.ok (.enter c args) w){S:List SX->Prop}(p:SX->Bool)(w:z9)(k:∀(x:SX) (W:z9),R w.1.size w W->Calls prog c (a++#[.agg (xZz x)]++g) W fun e W'=>e=.returned (.bool (p x))/\R W.1.size W W')(f:jx (fun _=>False) w.1.size prog gf lb (fun x:SX=>#[.agg (xZz x)]) S N w)(z:∀xs,S xs->xs.length<=9223372036854775807):
  Calls prog 90 #[.func (.func gf) #[] lb,.func (.func c) a g] w fun e w'=>∃xs,S xs/\e=.returned (I (xs.filter p).length)/\R w.1.size w w':=by
 obtain⟨o,q,b,i⟩:=box2 w (.cells #[.func (.func gf) #[] lb] 150) (.cells #[.func (.func c) a g] 158);have u:jx (fun _=>False) (w.1.size+2) prog 225 #[(O w.1.size),(O (w.1.size+1))] (fun x:SX=>#[.agg (xZz x)]) (fun ys=>∃xs,S xs/\ys=xs.filter p) N ((w.alloc (.cells #[.func (.func gf) #[] lb] 150)).alloc (.cells #[.func (.func c) a g] 158)):=
  zkd gf lb r c a g s p w.1.size (w.1.size+1) _ (by rw[i];omega) ⟨by omega,fun e=>e⟩ ⟨by omega,fun e=>e⟩ o q (fun x W ⟨m,A⟩=>k x W (b.trans ((Yz A (by rw[i];omega)).mono (by rw[i];omega)))) ((f.later b).lower (by omega))
 have v:=ze (zjH 225 _ zpf (fun _=>1) _ (by rw[i];omega) (fun x W _=>zoB x W) u);have y:=ze (zpi gf lb c a g w);have n:=ze b;clear k f u o q b i r s;go_enter func90,ntmps90;go_wp2_with(first
  |(go_at_call 151;refine(ud y).mono ?_;rintro e w1 ⟨rfl,rfl⟩)
  |(go_at_call 87;refine(ud v).mono ?_;rintro e w2 ⟨ys,⟨xs,t,rfl⟩,rfl,j⟩;have l:=ze j;have h:=ze t;clear j t))
 go_ret;have d:=zb (yK p xs) (z xs (ud h));refine⟨xs,ud h,by(first|rw[jN _ d]|rw[jN _ (by rw[List.length_unattach];exact d),List.length_unattach]);rfl,(ud n).trans ((ud l).mono (ud n).size)⟩
theorem zph(gf:Nat)(lb:Array za)(c:Nat)(a b:Array za)(w:z9):
  Calls prog 154 #[.func (.func gf) #[] lb,.func (.func c) a b] w fun e w'=>e=.returned (.func (.func 226) #[] #[(O w.1.size),(O (w.1.size+1))])/\w'=((w.alloc (.cells #[.func (.func gf) #[] lb] 166)).alloc (.cells #[.func (.func c) a b] 172)):=by
 go_enter func154,ntmps154;go_wp2_with fail;go_ret;exact⟨rfl,rfl⟩
theorem zpe:∀args w,(callFunc 226 args).run prog w=.ok (.enter 226 args) w:=enters_of func226 (by kernel_rfl) rfl
theorem zoA(x:Lse)(w:z9):Calls prog 155 #[.agg (lZz x)] w (Rz w (I 1)):=by
 have a:R w.1.size w (w.alloc (.cells (lZz x) 164)):=(Q _ _).alloc (E _) _;go_enter func155,ntmps155;go_wp2_with fail;go_ret;first|exact⟨rfl,a⟩|exact⟨rfl,Q _ _⟩
theorem zhJ(gf:Nat)(lb:Array za)(r:∀args w,(callFunc gf args).run prog w=.ok (.enter gf args) w)(c:Nat)(a g:Array za)(s:∀args w,(callFunc c args).run prog w=.ok (.enter c args) w){S:List Lse->Prop}(p:Lse->Bool)(w:z9)(k:∀(x:Lse) (W:z9),R w.1.size w W->Calls prog c (a++#[.agg (lZz x)]++g) W fun e W'=>e=.returned (.bool (p x))/\R W.1.size W W')(f:jx (fun _=>False) w.1.size prog gf lb (fun x:Lse=>#[.agg (lZz x)]) S N w)(z:∀xs,S xs->xs.length<=9223372036854775807):
  Calls prog 93 #[.func (.func gf) #[] lb,.func (.func c) a g] w fun e w'=>∃xs,S xs/\e=.returned (I (xs.filter p).length)/\R w.1.size w w':=by
 obtain⟨o,q,b,i⟩:=box2 w (.cells #[.func (.func gf) #[] lb] 166) (.cells #[.func (.func c) a g] 172);have u:jx (fun _=>False) (w.1.size+2) prog 226 #[(O w.1.size),(O (w.1.size+1))] (fun x:Lse=>#[.agg (lZz x)]) (fun ys=>∃xs,S xs/\ys=xs.filter p) N ((w.alloc (.cells #[.func (.func gf) #[] lb] 166)).alloc (.cells #[.func (.func c) a g] 172)):=
  zkc gf lb r c a g s p w.1.size (w.1.size+1) _ (by rw[i];omega) ⟨by omega,fun e=>e⟩ ⟨by omega,fun e=>e⟩ o q (fun x W ⟨m,A⟩=>k x W (b.trans ((Yz A (by rw[i];omega)).mono (by rw[i];omega)))) ((f.later b).lower (by omega))
 have v:=ze (zjG 226 _ zpe (fun _=>1) _ (by rw[i];omega) (fun x W _=>zoA x W) u);have y:=ze (zph gf lb c a g w);have n:=ze b;clear k f u o q b i r s;go_enter func93,ntmps93;go_wp2_with(first
  |(go_at_call 154;refine(ud y).mono ?_;rintro e w1 ⟨rfl,rfl⟩)
  |(go_at_call 153;refine(ud v).mono ?_;rintro e w2 ⟨ys,⟨xs,t,rfl⟩,rfl,j⟩;have l:=ze j;have h:=ze t;clear j t))
 go_ret;have d:=zb (yK p xs) (z xs (ud h));refine⟨xs,ud h,by(first|rw[jN _ d]|rw[jN _ (by rw[List.length_unattach];exact d),List.length_unattach]);rfl,(ud n).trans ((ud l).mono (ud n).size)⟩
theorem Vf(gf:Nat)(lb:Array za)(c:Nat)(a b:Array za)(w:z9):
  Calls prog 124 #[.func (.func gf) #[] lb,.func (.func c) a b] w fun e w'=>e=.returned (.func (.func 194) #[] #[(O w.1.size),(O (w.1.size+1))])/\w'=((w.alloc (.cells #[.func (.func gf) #[] lb] 199)).alloc (.cells #[.func (.func c) a b] 206)):=by
 go_enter func124,ntmps124;go_wp2_with fail;go_ret;exact⟨rfl,rfl⟩
theorem Ve:∀args w,(callFunc 194 args).run prog w=.ok (.enter 194 args) w:=enters_of func194 (by kernel_rfl) rfl
theorem zoz{α:Type}(a:α->Sg)(x:α)(w:z9):Calls prog 182 #[.agg #[I (a x).t,I (a x).sr,I (a x).wn]] w (Rz w (I 1)):=by
 have b:R w.1.size w (w.alloc (.cells #[I (a x).t,I (a x).sr,I (a x).wn] 146)):=(Q _ _).alloc (E _) _;go_enter func182,ntmps182;go_wp2_with fail;go_ret;first|exact⟨rfl,b⟩|exact⟨rfl,Q _ _⟩
theorem zhI{α:Type}(b:α->Sg)(gf:Nat)(lb:Array za)(s:∀args w,(callFunc gf args).run prog w=.ok (.enter gf args) w)(d:Nat)(a h:Array za)(u:∀args w,(callFunc d args).run prog w=.ok (.enter d args) w){S:List α->Prop}(p:α->Bool)(w:z9)(l:∀(x:α) (W:z9),R w.1.size w W->Calls prog d (a++#[.agg #[I (b x).t,I (b x).sr,I (b x).wn]]++h) W fun e W'=>e=.returned (.bool (p x))/\R W.1.size W W')(g:jx (fun _=>False) w.1.size prog gf lb (fun x:α=>#[.agg #[I (b x).t,I (b x).sr,I (b x).wn]]) S N w)(B:∀xs,S xs->xs.length<=9223372036854775807):
  Calls prog 119 #[.func (.func gf) #[] lb,.func (.func d) a h] w fun e w'=>∃xs,S xs/\e=.returned (I (xs.filter p).length)/\R w.1.size w w':=by
 obtain⟨q,r,c,j⟩:=box2 w (.cells #[.func (.func gf) #[] lb] 199) (.cells #[.func (.func d) a h] 206);have y:jx (fun _=>False) (w.1.size+2) prog 194 #[(O w.1.size),(O (w.1.size+1))] (fun x:α=>#[.agg #[I (b x).t,I (b x).sr,I (b x).wn]]) (fun ys=>∃xs,S xs/\ys=xs.filter p) N ((w.alloc (.cells #[.func (.func gf) #[] lb] 199)).alloc (.cells #[.func (.func d) a h] 206)):=
  ZK b gf lb s d a h u p w.1.size (w.1.size+1) _ (by rw[j];omega) ⟨by omega,fun e=>e⟩ ⟨by omega,fun e=>e⟩ q r (fun x W ⟨m,C⟩=>l x W (c.trans ((Yz C (by rw[j];omega)).mono (by rw[j];omega)))) ((g.later c).lower (by omega))
 have z:=ze (zjF b 194 _ Ve (fun _=>1) _ (by rw[j];omega) (fun x W _=>zoz b x W) y);have A:=ze (Vf gf lb d a h w);have o:=ze c;clear l g y q r c j s u;go_enter func119,ntmps119;go_wp2_with(first
  |(go_at_call 124;refine(ud A).mono ?_;rintro e w1 ⟨rfl,rfl⟩)
  |(go_at_call 181;refine(ud z).mono ?_;rintro e w2 ⟨ys,⟨xs,v,rfl⟩,rfl,k⟩;have n:=ze k;have i:=ze v;clear k v))
 go_ret;have f:=zb (yK p xs) (B xs (ud i));refine⟨xs,ud i,by(first|rw[jN _ f]|rw[jN _ (by rw[List.length_unattach];exact f),List.length_unattach]);rfl,(ud o).trans ((ud n).mono (ud o).size)⟩
structure xI(w:z9)(s:Nat)(c:Cf)(tv:za)(lb gb:Nat)(Gl:List (Sg×Unit))(L:LV):Prop where
 head:w.1[s]?=G (.cells #[I c.s,I c.le,I c.la,I c.wi,I c.ke,I c.qu,tv,.map (G lb),.map (G gb)] 155 (0,0))
 trow:w.ownsRow 0 80 3 tv c.n (ZC c.n c.F c.W c.K)
 live:yI w lb L
 gone:xi jA w gb Gl
 apart:gb≠lb
structure vw(w:z9)(s:Nat)(c:Cf)(tv:za)(lb gb:Nat):Prop where
 head:w.1[s]?=G (.cells #[I c.s,I c.le,I c.la,I c.wi,I c.ke,I c.qu,tv,.map (G lb),.map (G gb)] 155 (0,0))
 trow:w.ownsRow 0 80 3 tv c.n (ZC c.n c.F c.W c.K)
theorem xI.hd(h:xI w s c tv lb gb Gl L):vw w s c tv lb gb:=⟨h.head,h.trow⟩
theorem vw.lt(h:vw w s c tv lb gb):s<w.1.size:=zd h.head
theorem vw.kept(h:vw w s c tv lb gb)(a:zi f w w')(b:¬f s)(d:∀k,tv.ownBlock=G k->¬f k):vw w' s c tv lb gb:=⟨a.heap h.head b,zh h.trow a d⟩
theorem vw.later(h:vw w s c tv lb gb)(a:R w.1.size w w'):vw w' s c tv lb gb:=h.kept (f:=fun _=>False) (zi.of_below a) (fun h=>h) (fun _ _ h=>h)
theorem vw.cells(h:vw w s c tv lb gb):w.cell? (U s 0)=G (I c.s)/\w.cell? (U s 1)=G (I c.le)/\w.cell? (U s 2)=G (I c.la)/\w.cell? (U s 3)=G (I c.wi)/\w.cell? (U s 4)=G (I c.ke)/\w.cell? (U s 5)=G (I c.qu)/\w.cell? (U s 6)=G tv/\w.cell? (U s 7)=G (.map (G lb))/\w.cell? (U s 8)=G (.map (G gb)):=by
 refine⟨?_,?_,?_,?_,?_,?_,?_,?_,?_⟩<;>rw[xR h.head]<;>rfl
def Z0(s:Nat)(tv:za)(lb gb:Nat)(k:Nat):Prop:=k=s\/tv.ownBlock=G k\/k=lb\/k=gb
section
variable {w:z9} {s:Nat} {c:Cf} {tv:za} {lb gb:Nat} {Gl:List (Sg×Unit)} {L:LV}
theorem xI.lt(h:xI w s c tv lb gb Gl L):s<w.1.size:=zd h.head
theorem xI.kept(h:xI w s c tv lb gb Gl L)(a:zi f w w')(hn:∀k,Z0 s tv lb gb k->¬f k):xI w' s c tv lb gb Gl L:=
 ⟨a.heap h.head (hn s (.inl rfl)),zh h.trow a (fun k b=>hn k (.inr (.inl b))),h.live.kept a (hn lb (.inr (.inr (.inl rfl)))),h.gone.kept a (hn gb (.inr (.inr (.inr rfl)))),h.apart⟩
theorem xI.later(h:xI w s c tv lb gb Gl L)(a:R w.1.size w w'):xI w' s c tv lb gb Gl L:=
 h.kept (f:=fun _=>False) (zi.of_below a) (fun _ _ b=>b)
theorem xI.cells(h:xI w s c tv lb gb Gl L):w.cell? (U s 0)=G (I c.s)/\w.cell? (U s 1)=G (I c.le)/\w.cell? (U s 2)=G (I c.la)/\w.cell? (U s 3)=G (I c.wi)/\w.cell? (U s 4)=G (I c.ke)/\w.cell? (U s 5)=G (I c.qu)/\w.cell? (U s 6)=G tv/\w.cell? (U s 7)=G (.map (G lb))/\w.cell? (U s 8)=G (.map (G gb)):=by
 refine⟨?_,?_,?_,?_,?_,?_,?_,?_,?_⟩<;>rw[xR h.head]<;>rfl
end
theorem zpc(x:SX)(w:z9):Calls prog 89 #[.agg (xZz x)] w (Rz w (I (kf x.2))):=by
 by_cases h:x.2.st=1
 ·have a:(x.2.st==1)=true:=by simp[h]
  rw[show kf x.2=x.2.cl.cnt from by simp[kf,h]]
  clear h;go_enter func89,ntmps89;go_wp2_with fail;go_ret;exact⟨rfl,(Q _ _).alloc (E _) _⟩
 ·have a:(x.2.st==1)=false:=by simp[h]
  rw[show kf x.2=2 from by simp[kf,h]]
  clear h;go_enter func89,ntmps89;go_wp2_with fail;go_ret;exact⟨rfl,(Q _ _).alloc (E _) _⟩
theorem zdI(x:SX)(a:Nat)(k:Int)(w:z9)(b:w.cell? (U a 0)=G (I k))(c:a<w.1.size):Calls prog 91 #[.agg (xZz x),(O a)] w (Rz w (.bool (x.2.st==k))):=by
 go_enter func91,ntmps91;go_wp2_with fail;go_ret;exact⟨rfl,(Q _ _).alloc (E _) _⟩
theorem zki(f:SV->Int)(h:ps.Perm L)(a:xz (qJ (L.map (fun p=>f p.2)))):vN (ps.map (fun x:SX=>f x.2))=qJ (L.map (fun p=>f p.2)):=by
 have e:qJ (ps.map (fun x:SX=>f x.2))=qJ (L.map (fun p=>f p.2)):=vK (h.map _);rw[<-e];apply vs;rw[e];exact a
theorem zfv(k:Int)(h:ps.Perm L):((ps.filter (fun x:SX=>x.2.st==k)).length:Int)=xc L k:=by
 unfold xc;have e:qJ (L.map (fun p=>zgQ k p.2))=qJ (ps.map (fun p=>zgQ k p.2)):=(vK (h.map _)).symm;rw[e];induction ps generalizing L with
 |nil=>rfl
 |cons p ps c=>
  have a:=c (List.Perm.refl ps) rfl;simp only[List.map_cons,List.filter_cons,qJ];unfold zgQ at*;by_cases b:p.2.st=k
  ·rw[if_pos (by simpa using b),if_pos b,List.length_cons,<-a];omega
  ·rw[if_neg (by simpa using b),if_neg b,<-a];omega
theorem Qc(h:xI w s c tv lb gb Gl L)(d:xz (zV L)):
  Calls prog 43 #[(O s)] w (Rz w (I (zV L))):=by
 have l:=h.lt;obtain⟨-,-,-,-,-,-,-,m,-⟩:=h.cells;have a:∀o,R w.1.size w (w.alloc o):=fun o=>(Q _ _).alloc (E _) _;have j:=ze (JN lb w);have i:=ze (zmm 150 #[(O w.1.size)] zcV (fun x:SX=>kf x.2) (w.alloc (.cells #[.map (G lb)] 152)) (E _)
  (fun x W n=>zpc x W)
  (zif (ex:=fun _=>False) w.1.size lb L _ (fun e=>e) (by simp) (by rw[xR (zq _ _)];rfl) (qK.1 (h.live.later (a _)))))
 have g:=ze d;clear h d;go_enter func43,ntmps43;go_wp2_with fail;refine(ud j).mono ?_;rintro e w1 ⟨rfl,rfl⟩;go_wp2_with fail;refine(ud i).mono ?_;rintro e w1 ⟨xs,k,rfl,b⟩;have f:=zki kf k (ud g);rw[f];clear f;go_wp2_with fail;go_ret;exact⟨rfl,(a _).trans (b.mono (a _).size)⟩
theorem scen:∀args w,(callFunc 91 args).run prog w=.ok (.enter 91 args) w:=enters_of func91 (by kernel_rfl) rfl
theorem QF(h:xI w s c tv lb gb Gl L)(k:Int)(y:(k==4)=false)(v:L.length<=100000):
  Calls prog 44 #[(O s),I k] w (Rz w (I (xc L k))):=by
 have j:=h.lt;obtain⟨-,-,-,-,-,-,-,t,-⟩:=h.cells;have f:∀o,R w.1.size w (w.alloc o):=fun o=>(Q _ _).alloc (E _) _;obtain⟨d,m,a,n⟩:=box2 w (.cells #[I k] 97) (.cells #[.map (G lb)] 152);have r:=ze (JN lb (w.alloc (.cells #[I k] 97)));have q:=ze (znK 150 #[(O (w.1.size+1))] zcV 91 #[] #[(O w.1.size)] scen (fun x:SX=>x.2.st==k) _
  (fun x W l=>zdI x w.1.size k W (by rw[xR ((l.block _ (zd d)).trans d)];rfl) (T (zd d) l.size))
  (zif (ex:=fun _=>False) (w.1.size+1) lb L _ (fun e=>e) (by rw[n];omega) (by rw[xR m];rfl) (qK.1 (h.live.later a))) (fun xs i=>by rw[i.length_eq];omega))
 have b:=ze a;have u:=((f (.cells #[I k] 97)).cell (p:=(U s 7)) j).trans t;clear h v d m a n;go_enter func44,ntmps44;go_wp2_with fail;refine(ud r).mono ?_;rintro e w1 ⟨rfl,rfl⟩;go_wp2_with fail;refine(ud q).mono ?_;rintro e w1 ⟨xs,i,rfl,g⟩;rw[zfv k i];go_wp2_with fail;go_ret;exact⟨rfl,(ud b).trans (g.mono (ud b).size)⟩
theorem ziU(h:xI w s c tv lb gb Gl L):
  Calls prog 44 #[(O s),I 4] w (Rz w (I Gl.length)):=by
 have d:=h.lt;obtain⟨-,-,-,-,-,-,-,-,e⟩:=h.cells;have a:∀o,R w.1.size w (w.alloc o):=fun o=>(Q _ _).alloc (E _) _;have b:(Builtin.len_ #[153] 3 #[.map (G gb)]).run prog (w.alloc (.cells #[I 4] 97))=.ok (I Gl.length) (w.alloc (.cells #[I 4] 97)):=zlT Xr (h.gone.later (a _)) _;clear h;go_enter func44,ntmps44;go_wp2_with fail;go_ret;exact⟨rfl,a _⟩
theorem vp(c:Cf)(a:Option Addr)(cap:Nat)(w:z9):Calls prog 179 #[(cZz c a cap)] w (Rz w (I c.n)):=by
 go_enter func179,ntmps179;go_wp2_with fail;go_ret;exact⟨rfl,(Q _ _).alloc (E _) _⟩
theorem JT(c:Cf)(a:Option Addr)(cap:Nat)(w:z9):Calls prog 61 #[(cZz c a cap)] w (Rz w (I c.la)):=by
 go_enter func61,ntmps61;go_wp2_with fail;go_ret;exact⟨rfl,(Q _ _).alloc (E _) _⟩
theorem QB(c:Cf)(a:Option Addr)(cap:Nat)(w:z9):Calls prog 63 #[(cZz c a cap)] w (Rz w (I c.qu)):=by
 go_enter func63,ntmps63;go_wp2_with fail;go_ret;exact⟨rfl,(Q _ _).alloc (E _) _⟩
theorem zdl(c:Cf)(l:c.ok)(a:Option Addr)(cap:Nat)(t tm:Int)(d: -1<=t)(f:t<c.n)(j:0<=tm/\tm<=100000)(w:z9)(k:TS w a c.n c.F c.W c.K):Calls prog 184 #[(cZz c a cap),I t,I tm] w (Rz w (I (tm/c.wh t))):=by
 have b:∀o,R w.1.size w (w.alloc o):=fun o=>(Q _ _).alloc (E _) _;obtain⟨r,u⟩:=l.wh d f;obtain⟨p,q⟩:=j;have i:=l.n4;have m:Hid (zQ c.wi c.W t=c.wh t):=rfl;have g:=fun o=>ze (kL c.s c.le c.la c.wi c.ke c.qu a c.n cap c.F c.W c.K t d f i (w.alloc o) (k.below (b o)));go_enter func184,ntmps184;go_wp2_with fail;refine(ud (g _)).mono ?_;rintro e w1 ⟨rfl,h⟩;rw[ud m];go_wp2_with fail;go_ret;exact⟨rfl,(b _).trans (h.mono (b _).size)⟩
theorem JS(c:Cf)(q:c.ok)(a:Option Addr)(cap:Nat)(t wn:Int)(f: -1<=t)(g:t<c.n)(p:0<=wn/\wn<=100000)(w:z9)(l:TS w a c.n c.F c.W c.K):Calls prog 180 #[(cZz c a cap),I t,I wn] w (Rz w (I ((wn+1)*c.wh t))):=by
 have b:∀o,R w.1.size w (w.alloc o):=fun o=>(Q _ _).alloc (E _) _;obtain⟨z,m⟩:=q.wh f g;obtain⟨x,y⟩:=p;have k:=q.n4;have r:Hid (zQ c.wi c.W t=c.wh t):=rfl;have i:=fun o=>ze (kL c.s c.le c.la c.wi c.ke c.qu a c.n cap c.F c.W c.K t f g k (w.alloc o) (l.below (b o)));have d:0<=(wn+1)*c.wh t/\(wn+1)*c.wh t<=1000000000:=by
  constructor
  ·exact Int.mul_nonneg (by omega) (by omega)
  ·have:=Int.mul_le_mul (show wn+1<=100001 by omega) m (by omega) (by omega);omega
 obtain⟨u,v⟩:=d;have h:wrap64 ((wn+1)*c.wh t)=(wn+1)*c.wh t:=by unfold wrap64;omega
 go_enter func180,ntmps180;go_wp2_with fail;refine(ud (i _)).mono ?_;rintro e w1 ⟨rfl,j⟩;rw[ud r];go_wp2_with fail;go_ret;exact⟨by first|rfl|rw[h],(b _).trans (j.mono (b _).size)⟩
theorem zlr(c:Cf)(f:c.ok)(a:Option Addr)(cap:Nat)(t:Int)(w:z9):Calls prog 116 #[(cZz c a cap),I t] w (Rz w (.bool (inB t (-1) ((c.n:Int)-1)))):=by
 have b:∀o,R w.1.size w (w.alloc o):=fun o=>(Q _ _).alloc (E _) _;have i:=f.n4;have h:=f.n1;have g:=fun o=>ze (vp c a cap (w.alloc o));go_enter func116,ntmps116;go_wp2_with fail;refine(ud (g _)).mono ?_;rintro e w1 ⟨rfl,d⟩;go_wp2_with(go_at_call 92;refine(xV _ _ _ _).mono ?_;rintro e w2 ⟨rfl,rfl⟩);go_ret;exact⟨rfl,(b _).trans (d.mono (b _).size)⟩
theorem zeC(h:vw w s c tv lb gb)(x:c.ok)(t sr tm:Int)(l: -1<=t)(m:t<c.n)(q:0<=tm/\tm<=100000):
  Calls prog 122 #[(O s),I t,I sr,I tm] w (Rz w (.agg #[I t,I sr,I (tm/c.wh t)])):=by
 obtain⟨a,cap,rfl⟩:=zR h.trow;have z:=h.lt;have b:∀o,R w.1.size w (w.alloc o):=fun o=>(Q _ _).alloc (E _) _;have f:=TS.of_owns h.trow;obtain⟨A,B,C,D,F,H,J,-,-⟩:=h.cells;have i:=fun o=>ze (zdl c x a cap t tm l m q (w.alloc o) (f.below (b o)));have B1:=ze (zq w (.cells #[I 0,I 0,I 0] 146));have r:=ze (zM w (.cells #[I 0,I 0,I 0] 146));clear h f;go_enter func122,ntmps122;go_wp2_with fail;refine(ud (i _)).mono ?_;rintro e w1 ⟨rfl,d⟩;have g:=(d.block w.1.size (by rw[ud r];omega)).trans (ud B1);obtain⟨K,L,M,-⟩:=zc g;have N:=fun j=>zw g j;have u:=ze g;clear g;go_wp2_with fail;have y:=set3 (ud u) (I t) (I sr) (I (tm/c.wh t));have k:R w.1.size w1 (((w1.setCell (U w.1.size 0) (I t)).setCell (U w.1.size 1) (I sr)).setCell (U w.1.size 2) (I (tm/c.wh t))):=(((Q _ _).setCell (p:=(U w.1.size 0)) (E _) _).setCell (p:=(U w.1.size 1)) (E _) _).setCell (p:=(U w.1.size 2)) (E _) _;refine bodyPost_ret (v:=.agg #[I t,I sr,I (tm/c.wh t)]) (results_cell_row results122 _ _ w.1.size _ _ _ _ rfl y underlying146 rfl (by kernel_rfl)) rfl ?_;exact⟨rfl,(b _).trans ((d.mono (b _).size).trans k)⟩
theorem zfT(c:Cf)(a:Option Addr)(cap:Nat)(w:z9):Calls prog 103 #[(cZz c a cap)] w (Rz w (I c.le)):=by
 go_enter func103,ntmps103;go_wp2_with fail;go_ret;exact⟨rfl,(Q _ _).alloc (E _) _⟩
theorem ziC(c:Cf)(d:c.ok)(a:Option Addr)(cap:Nat)(t:Int)(w:z9):Calls prog 46 #[(cZz c a cap),I t] w (Rz w (.bool (inB t 0 (c.s-1)))):=by
 have b:∀o,R w.1.size w (w.alloc o):=fun o=>(Q _ _).alloc (E _) _;obtain⟨g,h⟩:=d.sl;have f:=fun W=>ze (xV t 0 (c.s-1) W);clear d;go_enter func46,ntmps46;go_wp2_with(first|(go_at_call 92;refine(ud (f _)).mono ?_;rintro e w1 ⟨rfl,rfl⟩));go_ret;exact⟨rfl,b _⟩
theorem zfS(c:Cf)(j:c.ok)(a:Option Addr)(cap:Nat)(t:Int)(q: -1<=t)(r:t<c.n)(w:z9)(f:TS w a c.n c.F c.W c.K):Calls prog 234 #[(cZz c a cap),I t] w (Rz w (I (c.keep t))):=by
 have p:=j.n4;have d:∀o,R w.1.size w (w.alloc o):=fun o=>(Q _ _).alloc (E _) _;by_cases h:t= -1
 ·subst h;rw[show c.keep (-1)=c.ke from rfl];go_enter func234,ntmps234;go_wp2_with fail;go_ret;exact⟨rfl,d _⟩
 ·obtain⟨k,rfl⟩:∃k:Nat,t=k:=⟨t.toNat,by omega⟩;have l:k<c.n:=by omega
  obtain⟨b,s,rfl,i,e⟩:=f.below (d (.cells (aZz c a cap) 27)) (by omega);obtain⟨-,-,v⟩:=e k l;have m:(k:Int)<c.n:=by omega
  have u:((k:Int)== -1)=false:=by simp
  have g:Hid (c.keep (k:Int)=c.K k):=by show c.keep (k:Int)=c.K k;unfold Cf.keep;rw[if_neg (by omega)];simp
  clear e f;rw[ud g];go_enter func234,ntmps234;go_wp2_with fail;go_ret;exact⟨rfl,d _⟩
theorem Ks(c:Cf)(m:c.ok)(a:Option Addr)(cap:Nat)(t wn now:Int)(r: -1<=t)(s:t<c.n)(d:0<=wn/\wn<=100000)(q:0<=now/\now<=100000)(w:z9)(e:TS w a c.n c.F c.W c.K):Calls prog 117 #[(cZz c a cap),I t,I wn,I now] w (Rz w (.bool (decide ((wn+1)*c.wh t<=now-c.la)))):=by
 have k:∀o,R w.1.size w (w.alloc o):=fun o=>(Q _ _).alloc (E _) _;obtain⟨S,U⟩:=m.la;have Y:=ze m;have x:=d;obtain⟨n1,Z⟩:=q;have p:0<=(wn+1)*c.wh t/\(wn+1)*c.wh t<=1000000000:=by
  obtain⟨V,C⟩:=m.wh r s;constructor
  ·exact Int.mul_nonneg (by omega) (by omega)
  ·have:=Int.mul_le_mul (show wn+1<=100001 by omega) C (by omega) (by omega);omega
 have M:=ze d;obtain⟨v,hv⟩:∃v,(wn+1)*c.wh t=v:=⟨_,rfl⟩;have y:∀W,R w.1.size w W->Hid (Calls prog 180 #[(cZz c a cap),I t,I wn] W (Rz W (I v))):=fun W P=>by have h:=JS c m a cap t wn r s d W (e.below P);rw[hv]at h;exact h
 rw[hv]at p ⊢;clear m d x hv;have l:=k (.cells (aZz c a cap) 89);have D:=zq w (.cells (aZz c a cap) 89);have H:=zM w (.cells (aZz c a cap) 89);obtain⟨x0,x1,x2,x3,x4,x5,x6,-⟩:=zc D;have f:=ze l;have L:=ze e;have J:=ze H;clear D H l e k;go_enter func117,ntmps117;go_wp2_with fail;have q4:w.1.size<w.1.size+1:=by omega
 generalize(w.alloc (.cells (aZz c a cap) 89))=X at*;generalize O:w.1.size+1=N at*;have B:Nonempty (xg N X):=xg.some _ _;have A:=fun(u:xg N X) b o h=>u.cell b o h;have j:N<=X.1.size:=by rw[ud J];exact E _
 have i:=ze j;have g:Hid (w.1.size<=N):=by show w.1.size<=N;omega
 clear j O;refine zy N (by kernel_rfl) (by kernel_rfl) ?_;repeat(go_big_quiet_step (first
  |(go_at_call 180;exact Calls.later (ud i) (ud (y _ ((ud f).trans (Below.mono (Subtype.property _) (ud g))))))
  |(go_at_call 61;exact Calls.later (ud i) (JT c a cap _))))
 refine wpQuiet_nil ?_;rintro⟨w1,z⟩;clear A B;dsimp only;go_wp2_with fail;go_ret;exact⟨rfl,(ud f).trans (z.mono (ud g))⟩
theorem zbB(c:Cf)(q:c.ok)(a:Option Addr)(cap:Nat)(t wn:Int)(d: -1<=t)(e:t<c.n)(j:0<=wn/\wn<=100000)(w:z9)(i:TS w a c.n c.F c.W c.K):Calls prog 177 #[(cZz c a cap),I t,I wn] w (Rz w (I ((wn+1)*c.wh t+c.keep t))):=by
 have m:∀o,R w.1.size w (w.alloc o):=fun o=>(Q _ _).alloc (E _) _;have J:=ze q;obtain⟨S,k2⟩:=q.keeps d e;have r:0<=(wn+1)*c.wh t/\(wn+1)*c.wh t<=1000000000:=by
  obtain⟨P,B⟩:=q.wh d e;constructor
  ·exact Int.mul_nonneg (by omega) (by omega)
  ·have:=Int.mul_le_mul (show wn+1<=100001 by omega) B (by omega) (by omega);omega
 have L:=ze j;obtain⟨v,hv⟩:∃v,(wn+1)*c.wh t=v:=⟨_,rfl⟩;have s:∀W,R w.1.size w W->Hid (Calls prog 180 #[(cZz c a cap),I t,I wn] W (Rz W (I v))):=fun W O=>by have h:=JS c q a cap t wn d e j W (i.below O);rw[hv]at h;exact h
 rw[hv]at r ⊢;clear q j hv;have p:=m (.cells (aZz c a cap) 89);have C:=zq w (.cells (aZz c a cap) 89);have D:=zM w (.cells (aZz c a cap) 89);obtain⟨V,Y,Z,x3,x4,x5,x6,-⟩:=zc C;have f:=ze p;have x:=ze i;have H:=ze D;clear C D p i m;go_enter func177,ntmps177;go_wp2_with fail;have U:w.1.size<w.1.size+1:=by omega
 generalize(w.alloc (.cells (aZz c a cap) 89))=X at*;generalize M:w.1.size+1=N at*;have A:Nonempty (xg N X):=xg.some _ _;have z:=fun(u:xg N X) b o h=>u.cell b o h;have l:N<=X.1.size:=by rw[ud H];exact E _
 have k:=ze l;have g:Hid (w.1.size<=N):=by show w.1.size<=N;omega
 clear l M;refine zy N (by kernel_rfl) (by kernel_rfl) ?_;repeat(go_big_quiet_step (first
  |(go_at_call 180;exact Calls.later (ud k) (ud (s _ ((ud f).trans (Below.mono (Subtype.property _) (ud g))))))
  |(go_at_call 234;exact Calls.later (ud k) (zfS c (ud J) a cap t d e _ ((ud x).below ((ud f).trans (Below.mono (Subtype.property _) (ud g))))))))
 refine wpQuiet_nil ?_;rintro⟨w1,y⟩;clear z A;dsimp only;go_wp2_with fail;go_ret;exact⟨rfl,(ud f).trans (y.mono (ud g))⟩
theorem ZB{fn:Func}{p u:Tmp}{b:TypeId}(h:fn.results=#[.tmp u,.cell p b])(tmps:Array za)(w:z9)(g:Nat)(t:TypeId)(cs:Array za)(fr:Nat×Nat)(d:TypeDesc)(x:za)(l:tmps.getD u undef=x)(j:tmps.getD p undef=(O g))(f:w.1[g]?=G (.cells cs t fr))(k:P.underlying b=G d)(e:(match d with| .struct _| .array _ _=>true|_=>false)=true)(i:(P.info? b).map (·.size)=G cs.size):
  (results fn tmps).run P w=.ok (.tuple #[x,.agg cs]) w:=by
 have c:(results fn tmps).run P w=((asAddr (tmps.getD p undef)).run P w).andThen fun a m=>((loadVar b a).run P m).andThen fun v n=> .ok (.tuple #[tmps.getD u undef,v]) n:=by
  simp only[results,h];simp[Sem.run_bind,Result.andThen]
 rw[c,j,l];simp[asAddr,run_loadVar_row w g t b cs fr d f k e i,Result.andThen]
theorem zjv{a b c d:za}{t:TypeId}{fr:Nat×Nat}(h:w.1[g]?=G (.cells #[a,b,c,d] t fr))(x y z u:za):(((((w.setCell (U g 0) x).setCell (U g 1) y).setCell (U g 2) z).setCell (U g 3) u).drew).1[g]?=G (.cells #[x,y,z,u] t fr):=by
 have:=xD (i:=3) (xD (i:=2) (xD (i:=1) (xD (i:=0) h x) y) z) u;exact this
theorem YU(h:B<=g)(x y z u:za):R B w (((((w.setCell (U g 0) x).setCell (U g 1) y).setCell (U g 2) z).setCell (U g 3) u).drew):=
 (((((Q _ _).setCell (p:=(U g 0)) h _).setCell (p:=(U g 1)) h _).setCell (p:=(U g 2)) h _).setCell (p:=(U g 3)) h _).drew
theorem below4(h:B<=g)(x y z u:za):R B w ((((w.setCell (U g 0) x).setCell (U g 1) y).setCell (U g 2) z).setCell (U g 3) u):=
 ((((Q _ _).setCell (p:=(U g 0)) h _).setCell (p:=(U g 1)) h _).setCell (p:=(U g 2)) h _).setCell (p:=(U g 3)) h _
def stX(L:LV)(s:Sg):SX:=match ko L s with
 |some v=>(s,v)
 |none=>zX
theorem zjA(L:LV)(s:Sg):(stX L s).2=stL L s:=by unfold stX stL;cases ko L s<;>rfl
theorem zos(L:LV)(s:Sg):zdk false (vk zX) L s=vk (stX L s):=by
 unfold zdk stX;cases ko L s<;>rfl
theorem zbC{s:Sg}(hn:zE Gl s=none)(b:xi jA w gb Gl)(a:R w.1.size w X)(c:s.wf):(Instr.lookup 153 (.map (G gb)) (.agg #[I s.t,I s.sr,I s.wn]) true).run prog X=.ok (.tuple #[.agg #[],.bool false]) X:=by
 have h:=kK Xr true (b.later a) c;rw[hn]at h;exact h
theorem zbD{s:Sg}(hn:zE Gl s=G ())(b:xi jA w gb Gl)(a:R w.1.size w X)(c:s.wf):(Instr.lookup 153 (.map (G gb)) (.agg #[I s.t,I s.sr,I s.wn]) true).run prog X=.ok (.tuple #[.agg #[],.bool true]) X:=by
 have h:=kK Xr true (b.later a) c;rw[hn]at h;exact h
theorem VZ{s:Sg}{v:SX}(hv:v=stX L s)(b:yI w lb L)(a:R w.1.size w X)(c:s.wf):(Instr.lookup 152 (.map (G lb)) (.agg #[I s.t,I s.sr,I s.wn]) false).run prog X=.ok (.agg (xZz v)) X:=by
 subst hv;have:=zeM false (b.later a) c;rw[zos]at this;exact this
theorem zgd(h:xI w b c tv lb gb Gl L)(s:Sg)(hs:s.wf)(x:zE Gl s=none):
  Calls prog 118 #[(O b),.agg #[I s.t,I s.sr,I s.wn]] w (Rz w (.tuple #[I (stL L s).st,clV (stL L s).cl])):=by
 obtain⟨v,hv⟩:∃v,v=stX L s:=⟨_,rfl⟩;rw[<-zjA,<-hv];have n:=ze hv;clear hv;have y:=h.lt;obtain⟨-,-,-,-,-,-,-,N,P⟩:=h.cells;have H:=ze h;obtain⟨M,y1,a,yz⟩:=box2 w (.cells #[I s.t,I s.sr,I s.wn] 146) Qn;have i:=ze hs;have f:=ze x;clear h hs x;go_enter func118,ntmps118;go_wp2_with fail;generalize((w.alloc (.cells #[I s.t,I s.sr,I s.wn] 146)).alloc Qn)=X at*;obtain⟨k0,k1,k2,-⟩:=zc M;have x7:=(a.cell (p:=(U b 7)) y).trans N;have x8:=(a.cell (p:=(U b 8)) y).trans P;have C:=zbC (ud f) (X:=X) (ud H).gone a (ud i);have D:=zbC (ud f) (X:=X.drew) (ud H).gone a.drew (ud i);have F:=fun o=>zbC (ud f) (X:=X.alloc o) (ud H).gone (a.alloc a.size o) (ud i);have J:=fun o=>zbC (ud f) (X:=(X.alloc o).drew) (ud H).gone (a.alloc a.size o).drew (ud i);have K:=fun o=>zbC (ud f) (X:=X.drew.alloc o) (ud H).gone (a.drew.alloc a.drew.size o) (ud i);have Y1:=ze y1;have B:=ze yz;have m:=ze a;have Y0:=ze M;clear M y1 yz a N P;have u:b<X.1.size:=by have:=ud B;omega
 have k:w.1.size<X.1.size:=by have:=ud B;omega
 have g:w.1.size+1<X.1.size:=by have:=ud B;omega
 go_region
 have e:R X.1.size X ((X.alloc Vz).drew):=((Q _ _).alloc (E _) _).drew;have d:R w.1.size w ((X.alloc Vz).drew):=(ud m).trans (e.mono (ud m).size);generalize((X.alloc Vz).drew)=Y at*;have m0:=(e.cell (p:=(U w.1.size 0)) k).trans k0;have m1:=(e.cell (p:=(U w.1.size 1)) k).trans k1;have m2:=(e.cell (p:=(U w.1.size 2)) k).trans k2;have y7:=(e.cell (p:=(U b 7)) u).trans x7;have S:=(e.block (w.1.size+1) g).trans (ud Y1);clear C D F J K k0 k1 k2 x7 x8;have a1:=e.size;have u:b<Y.1.size:=by omega
 have k:w.1.size<Y.1.size:=by omega
 have g:w.1.size+1<Y.1.size:=by omega
 have C:=VZ (hv:=ud n) (X:=Y) (ud H).live d (ud i);have D:=VZ (hv:=ud n) (X:=Y.drew) (ud H).live d.drew (ud i);have F:=fun o=>VZ (hv:=ud n) (X:=Y.alloc o) (ud H).live (d.alloc d.size o) (ud i);have J:=fun o=>VZ (hv:=ud n) (X:=(Y.alloc o).drew) (ud H).live (d.alloc d.size o).drew (ud i);have K:=fun o=>VZ (hv:=ud n) (X:=Y.drew.alloc o) (ud H).live (d.drew.alloc d.drew.size o) (ud i);have q:=ze d;have E1:=ze S;clear e d S;go_wp2_with fail;go_region
 have l:R Y.1.size Y ((Y.alloc (.cells (xZz v) 148)).drew):=((Q _ _).alloc (E _) _).drew;have r:((Y.alloc (.cells (xZz v) 148)).drew).1[Y.1.size]?=G (.cells (xZz v) 148 (0,0)):=zq _ _;generalize((Y.alloc (.cells (xZz v) 148)).drew)=Z at*;obtain⟨z0,z1,z2,z3,z4,z5,z6,z7,-⟩:=zc r;have z:=(l.block (w.1.size+1) g).trans (ud E1);obtain⟨r0,r1,r2,r3,-⟩:=zc z;have rf:=fun j=>zw z j;have a2:(w.1.size+1==Y.1.size)=false:=by simp;omega
 have V:(Y.1.size==w.1.size+1)=false:=by simp;omega
 have W:¬w.1.size+1=Y.1.size:=by omega
 have a0:¬Y.1.size=w.1.size+1:=by omega
 have EZ:=ze z;have A:=ze l;clear C D F J K m0 m1 m2 y7 r z l;go_wp2_with fail;go_region
 go_wp2_with fail;have hf:=zjv (ud EZ) (I v.2.cl.cnt) (I v.2.cl.sum) (int i32 v.2.cl.mn) (int i32 v.2.cl.mx);refine bodyPost_ret (v:=.tuple #[I v.2.st,.agg #[I v.2.cl.cnt,I v.2.cl.sum,int i32 v.2.cl.mn,int i32 v.2.cl.mx]]) (ZB results118 _ _ (w.1.size+1) _ _ _ _ _ rfl rfl hf underlying115 rfl (by kernel_rfl)) rfl ?_;exact⟨rfl,((ud q).trans ((ud A).mono (ud q).size)).trans (YU (Nat.le_succ _) _ _ _ _)⟩
theorem zgc(h:xI w b c tv lb gb Gl L)(s:Sg)(A:s.wf)(l:zE Gl s=G ()):
  Calls prog 118 #[(O b),.agg #[I s.t,I s.sr,I s.wn]] w (Rz w (.tuple #[I 4,clV qA])):=by
 have m:=h.lt;obtain⟨-,-,-,-,-,-,-,y,z⟩:=h.cells;have H:=ze h;obtain⟨x,B,a,C⟩:=box2 w (.cells #[I s.t,I s.sr,I s.wn] 146) Qn;have k:=ze A;have d:=ze l;clear h A l;go_enter func118,ntmps118;go_wp2_with fail;generalize((w.alloc (.cells #[I s.t,I s.sr,I s.wn] 146)).alloc Qn)=X at*;obtain⟨k0,k1,k2,-⟩:=zc x;have x7:=(a.cell (p:=(U b 7)) m).trans y;have x8:=(a.cell (p:=(U b 8)) m).trans z;have J:=zbD (ud d) (X:=X) (ud H).gone a (ud k);have K:=zbD (ud d) (X:=X.drew) (ud H).gone a.drew (ud k);have M:=fun o=>zbD (ud d) (X:=X.alloc o) (ud H).gone (a.alloc a.size o) (ud k);have N:=fun o=>zbD (ud d) (X:=(X.alloc o).drew) (ud H).gone (a.alloc a.size o).drew (ud k);have P:=fun o=>zbD (ud d) (X:=X.drew.alloc o) (ud H).gone (a.drew.alloc a.drew.size o) (ud k);have F:=ze B;have u:=ze C;have g:=ze a;have Y0:=ze x;clear x B C a y z;have V:b<X.1.size:=by have:=ud u;omega
 have Z:w.1.size<X.1.size:=by have:=ud u;omega
 have f:w.1.size+1<X.1.size:=by have:=ud u;omega
 go_region
 have e:R X.1.size X ((X.alloc Vz).drew):=((Q _ _).alloc (E _) _).drew;have n:R w.1.size w ((X.alloc Vz).drew):=(ud g).trans (e.mono (ud g).size);generalize((X.alloc Vz).drew)=Y at*;have q:=(e.block (w.1.size+1) f).trans (ud F);clear J K M N P k0 k1 k2 x7 x8;have S:=e.size;have f:w.1.size+1<Y.1.size:=by omega
 obtain⟨r0,r1,r2,r3,-⟩:=zc q;have rf:=fun j=>zw q j;have r:=ze n;have D:=ze q;clear e n q;go_wp2_with fail;have W:=xD (i:=3) (xD (i:=2) (xD (i:=1) (xD (i:=0) (ud D) (I 0)) (I 0)) (int i32 0)) (int i32 0);refine bodyPost_ret (v:=.tuple #[I 4,.agg #[I 0,I 0,int i32 0,int i32 0]]) (ZB results118 _ _ (w.1.size+1) _ _ _ _ _ rfl rfl W underlying115 rfl (by kernel_rfl)) rfl ?_;exact⟨rfl,(ud r).trans (below4 (Nat.le_succ _) _ _ _ _)⟩
def stG(Gl:List (Sg×Unit))(L:LV)(s:Sg):SV:=match zE Gl s with
 |none=>stL L s
 |some _=>⟨4,qA⟩
theorem zbL(h:xI w b c tv lb gb Gl L)(s:Sg)(d:s.wf):
  Calls prog 118 #[(O b),.agg #[I s.t,I s.sr,I s.wn]] w (Rz w (.tuple #[I (stG Gl L s).st,clV (stG Gl L s).cl])):=by
 unfold stG;cases a:zE Gl s with
 |none=>exact zgd h s d a
 |some u=>exact zgc h s d a
theorem Y4(h:xI w b c tv lb gb Gl L)(s:Sg)(g:s.wf):
  Calls prog 121 #[(O b),.agg #[I s.t,I s.sr,I s.wn]] w (Rz w (.bool ((stG Gl L s).st==0))):=by
 have a:∀o,R w.1.size w (w.alloc o):=fun o=>(Q _ _).alloc (E _) _;have f:=fun o=>ze (zbL (h.later (a o)) s g);unfold clV at f;clear h g;generalize stG Gl L s=v at*;go_enter func121,ntmps121;go_wp2_with fail;refine(ud (f _)).mono ?_;rintro e w1 ⟨rfl,d⟩;go_wp2_with fail;go_ret;exact⟨rfl,((a _).trans (d.mono (a _).size)).alloc (zb (a _).size d.size) _⟩
theorem zpI(v:SX)(W:z9):(Instr.field 148 (.agg (xZz v)) 1).run prog W=.ok (I v.2.st) W:=by kernel_rfl
theorem ZU(h:xI w b c tv lb gb Gl L)(s:Sg)(j:s.wf):
  Calls prog 175 #[(O b),.agg #[I s.t,I s.sr,I s.wn]] w (Rz w (.bool ((stL L s).st==2))):=by
 obtain⟨v,hv⟩:∃v,v=stX L s:=⟨_,rfl⟩;rw[<-zjA,<-hv];have g:=h.lt;obtain⟨-,-,-,-,-,-,-,i,-⟩:=h.cells;have f:∀o,R w.1.size w (w.alloc o):=fun o=>(Q _ _).alloc (E _) _;have a:=f (.cells #[I s.t,I s.sr,I s.wn] 146);have k:=zq w (.cells #[I s.t,I s.sr,I s.wn] 146);have q:=zM w (.cells #[I s.t,I s.sr,I s.wn] 146);have e:=fun X l=>VZ (hv:=hv) (X:=X) h.live l j;clear h j hv;go_enter func175,ntmps175;go_wp2_with fail;generalize(w.alloc (.cells #[I s.t,I s.sr,I s.wn] 146))=X at*;obtain⟨y,z,k2,-⟩:=zc k;have A:=(a.cell (p:=(U b 7)) g).trans i;have u:=e X a;have x:=e X.drew a.drew;have r:=zpI v;have n:w.1.size<X.1.size:=by omega
 have m:b<X.1.size:=by omega
 have d:=ze a;clear e k q a i;go_region
 go_wp2_with fail;go_ret;exact⟨rfl,(ud d).drew⟩
attribute [local go_sem] Oper.semAt_some
def VD(c:Cf)(t st:Int)(k:Nat):List (Int×Int):=((List.range k).filter (fun i=>c.F i==t)).map (fun i:Nat=>((i:Int),st/c.W i))
theorem zaK(c:Cf)(t st:Int)(k:Nat):VD c t st (k+1)=if c.F k=t then VD c t st k++[((k:Int),st/c.W k)]else VD c t st k:=by
 unfold VD;rw[List.range_succ,List.filter_append,List.map_append];by_cases h:c.F k=t<;>simp[h]
theorem zdW(c:Cf)(t st:Int)(k:Nat):(VD c t st k).length<=k:=by
 unfold VD;rw[List.length_map];exact zb (List.length_filter_le _ _) (by simp)
abbrev WP:={p:Int×Int//xz p.1/\xz p.2}
noncomputable def Vx (p:Int×Int):WP:=by classical exact if h:xz p.1/\xz p.2 then⟨p,h⟩else⟨(0,0),by unfold xz;simp⟩
theorem zcy{p:Int×Int}(h:xz p.1/\xz p.2):(Vx p).1=p:=by unfold Vx;rw[dif_pos h]
theorem zha(b:c.ok)(a:0<=st/\st<=1000000000){k:Nat}(d:k<c.n):xz (((k:Int),st/c.W k):Int×Int).1/\xz (((k:Int),st/c.W k):Int×Int).2:=by
 obtain⟨w1,w2⟩:=b.W k d;have g:=b.n4;have e:0<=st/c.W k:=Int.ediv_nonneg a.1 (by omega);have f:st/c.W k<=st:=Int.ediv_le_self _ a.1;unfold xz;simp only;omega
structure AR(W:z9)(q Bs:Nat)(c:Cf)(a:Option Addr)(cap:Nat)(t st:Int):Prop where
 b0:W.1[q]?=G (.cells (aZz c a cap) 89 (0,0))
 b1:W.1[q+1]?=G (.cells #[I t] 3 (0,0))
 b2:W.1[Bs]?=G (.cells #[I st] 3 (0,0))
 ts:TS W a c.n c.F c.W c.K
theorem AR.later{q Bs:Nat}{cap:Nat}{t:Int}(h:AR W q Bs c a cap t st)(b:R W.1.size W W'):AR W' q Bs c a cap t st:=
 ⟨(b.block _ (zd h.b0)).trans h.b0,(b.block _ (zd h.b1)).trans h.b1,(b.block _ (zd h.b2)).trans h.b2,h.ts.below b⟩
theorem VW(c:Cf)(x:c.ok)(a:Option Addr)(cap:Nat)(t wn:Int)(k: -1<=t)(l:t<c.n)(M:0<=wn/\wn<=100000)(w:z9)(h:TS w a c.n c.F c.W c.K):
  Calls prog 236 #[(cZz c a cap),I t,I wn] w fun e w'=>∃Bs,e=.returned (.func (.func 264) #[] #[(O w.1.size),(O (w.1.size+1)),(O Bs)])/\AR w' w.1.size Bs c a cap t (wn*c.wh t)/\w.1.size<=Bs/\R w.1.size w w':=by
 obtain⟨z,A,g,C⟩:=box2 w (.cells (aZz c a cap) 89) (.cells #[I t] 3);obtain⟨b,m⟩:=x.wh k l;have j:0<=wn*c.wh t/\wn*c.wh t<=1000000000:=by
  constructor
  ·exact Int.mul_nonneg (by omega) (by omega)
  ·have:=Int.mul_le_mul (show wn<=100000 by omega) m (by omega) (by omega);omega
 have y:=x.n4;have d:=ze (kL c.s c.le c.la c.wi c.ke c.qu a c.n cap c.F c.W c.K t k l y _ (h.below g));rw[show zQ c.wi c.W t=c.wh t from rfl]at d;have u:=ze h;clear h x;obtain⟨v,hv⟩:∃v,c.wh t=v:=⟨_,rfl⟩;rw[hv]at d j b m ⊢;clear hv;obtain⟨P,-⟩:=zc A;obtain⟨S,U,V,Y,Z,x5,x6,-⟩:=zc z;have D:=ze z;have H:=ze A;have J:=ze C;have r:=ze g;have B:wrap64 (wn*v)=wn*v:=by unfold wrap64;omega
 clear z A C g;go_enter func236,ntmps236;go_wp2_with fail;generalize((w.alloc (.cells (aZz c a cap) 89)).alloc (.cells #[I t] 3))=X at*;refine(ud d).mono ?_;rintro e w1 ⟨rfl,i⟩;have q:=ze i;clear i;go_wp2_with fail;go_ret;have p:=ud q;have N:X.1.size=w.1.size+2:=ud J;have L:=p.size;have b:R w.1.size w w1:=(ud r).trans (p.mono (by omega));have f:R w1.1.size w1 (w1.alloc (.cells #[I (wn*v)] 3)):=(Q _ _).alloc (E _) _;have o:=b.trans (f.mono b.size);refine⟨w1.1.size,rfl,⟨(f.block _ (by omega)).trans ((p.block _ (by omega)).trans (ud D)),(f.block _ (by omega)).trans ((p.block _ (by omega)).trans (ud H)),zq _ _,(ud u).below o⟩,b.size,o⟩
theorem zfg(l q Bs:Nat)(c:Cf)(L:c.ok)(a:Option Addr)(cap:Nat)(t st:Int)(a0:0<=st/\st<=1000000000)(Kp:z9->z9->Prop)(z:∀A B,Kp A B->AR A q Bs c a cap t st->AR B q Bs c a cap t st)(C:∀A B,Kp A B->A.1.size<=B.1.size)(J Jx:List WP->z9->Prop)(hY:∀g x V,J g V->g.length<c.n->YieldAt Fence.wide 5 prog l #[I x.1.1,I x.1.2] V fun e H=>(e=.returned (.bool true)/\J (g++[x]) H/\Kp V H)\/(e=.returned (.bool false)/\Jx (g++[x]) H/\Kp V H))(W:z9)(hJ:OwnFrom W.1.size J)(Y:AR W q Bs c a cap t st)(h0:J [] W):
  CallsIn Fence.wide 6 prog 264 #[.func (.yield l) #[] #[],(O q),(O (q+1)),(O Bs)] W fun e W'=>(∃v,e=.returned v)/\
   ((∃xs,xs=(VD c t st c.n).map Vx/\J xs W')\/(∃g,True/\Jx g W')):=by
 obtain⟨-,-,-,-,-,-,q6,-⟩:=zc Y.b0;have a6:=L.n4;have a5:=L.n1;have HC:=ze L;have HR:=ze Y;have HJ:=ze hJ;have HY:=ze hY;have P:=ze z;have S:=ze C;clear Y hJ hY z L C;refine callsIn_of_wp func264 rfl trivial ?_ rfl;simp only[ntmps264,sZz,Nat.reduceAdd,Nat.reduceSub];gi_wp2;gi_loopw [5,6,11] (fun _ _ i wr=>∃k:Nat,k<=c.n/\i=I k/\J ((VD c t st k).map Vx) wr/\AR wr q Bs c a cap t st/\W.1.size<=wr.1.size)
  (fun _ _ i _=>c.n-(intOf i).toNat)
 case atStart=>exact⟨0,Nat.zero_le _,rfl,h0,ud HR,E _⟩
 case round=>
  obtain⟨k,hk,rfl,p,f,a3⟩:=hrel;by_cases m:k<c.n
  ·have a2:(k:Int)<c.n:=(by omega);obtain⟨b,ab,ha,a4,D⟩:=f.ts (by omega);obtain⟨f0,f1,f2⟩:=D k m;obtain⟨q1,-⟩:=zc f.b1;obtain⟨q2,-⟩:=zc f.b2;have a7:=zd f.b1;have a8:=zd f.b2;have s:=ze f;obtain⟨w1,w2⟩:=(ud HC).W k m;have a9:¬c.W k=0:=(by omega);have HA:=ze ha;subst ha;clear f D;by_cases r:c.F k=t
   ·have X:(c.F k==t)=true:=(by simpa using r);have d:R wr.1.size wr (wr.alloc (.cells #[I (c.F k),I (c.W k),I (c.K k)] 80)):=(Q _ _).alloc (E _) _;have u:=zN (ud HJ) p d;obtain⟨fn,tmps,assign,body,hy,Z⟩:=ud HY _ (Vx ((k:Int),st/c.W k)) _ u (by rw[List.length_map];exact Nat.lt_of_le_of_lt (zdW c t st k) m);rw[zcy (zha (ud HC) a0 m)]at hy;dsimp only at hy;have HF:=ze r;have o:=ze ((ud s).later d);have a1:=d.size;clear r u d;gi_wp2;refine Z.mono ?_;rintro e W3 (⟨rfl,w,j⟩|⟨rfl,y,j⟩)
    ·have U:=ze (ud P _ _ j (ud o));have aa:=ud S _ _ j;have N:Hid (J ((VD c t st (k+1)).map Vx) W3):=(by show J _ W3;rw[zaK,if_pos (ud HF),List.map_append,List.map_singleton];exact w);clear w j;gi_wp2;go_roundw;case rel=>exact⟨k+1,by omega,by simp,ud N,ud U,by omega⟩
     case measure=>simp[intOf];omega
    ·gi_wp2;refine bodyPost_ret (results_none rfl _ _ _) rfl ?_;exact⟨⟨_,rfl⟩,.inr ⟨_,trivial,y⟩⟩
   ·have X:(c.F k==t)=false:=(by simpa using r);have d:R wr.1.size wr (wr.alloc (.cells #[I (c.F k),I (c.W k),I (c.K k)] 80)):=(Q _ _).alloc (E _) _;have M:Hid (J ((VD c t st (k+1)).map Vx) (wr.alloc (.cells #[I (c.F k),I (c.W k),I (c.K k)] 80))):=(by show J _ _;rw[zaK,if_neg r];exact zN (ud HJ) p d);have o:=ze ((ud s).later d);have a1:=d.size;clear r d;gi_wp2;refine⟨fun _ h=>(by cases h),?_⟩;gi_wp2;go_roundw;case rel=>exact⟨k+1,by omega,by simp,ud M,ud o,Nat.le_trans (by omega) a1⟩
    case measure=>simp[intOf];omega
  ·obtain rfl:k=c.n:=(by omega);gi_wp2;go_end0;exact⟨⟨_,rfl⟩,.inl ⟨_,rfl,p⟩⟩
theorem zhb(q Bs:Nat)(c:Cf)(p:c.ok)(a:Option Addr)(cap:Nat)(t st:Int)(e:0<=st/\st<=1000000000)(Kp:z9->z9->Prop)(b:∀A B,Kp A B->AR A q Bs c a cap t st->AR B q Bs c a cap t st)(d:∀A B,Kp A B->A.1.size<=B.1.size)(m:Nat)(w:z9)(j:AR w q Bs c a cap t st):
  Yi Fence.wide 6 prog 264 #[(O q),(O (q+1)),(O Bs)] (fun x:WP=>#[I x.1.1,I x.1.2]) Kp (fun xs=>xs=(VD c t st c.n).map Vx) (fun _=>True) c.n m w:=
 fun l J f W k _ h i o g=>zfg l q Bs c p a cap t st e Kp b d J f o W h (j.later k) g
theorem zaL:∀args w,(callFunc 264 args).run prog w=.ok (.enter 264 args) w:=enters_of func264 (by kernel_rfl) rfl
def qm(c:Cf)(k:Nat):Int:=c.wh (k:Int)/c.wh (c.F k)
theorem Xy(a:c.ok){k:Nat}(f:k<c.n):0<=qm c k/\qm c k<=1000:=by
 obtain⟨g,h⟩:=a.wh (t:=(k:Int)) (by omega) (by omega);obtain⟨d,e⟩:=a.F k f;obtain⟨i,j⟩:=a.wh d e;unfold qm;constructor
 ·exact Int.ediv_nonneg (by omega) (by omega)
 ·have:=Int.ediv_le_self (b:=c.wh (c.F k)) (show 0<=c.wh (k:Int) by omega);omega
theorem zfM(c:Cf)(q:c.ok)(a:Option Addr)(cap:Nat)(k:Nat)(A:k<c.n)(wn:Int)(J:0<=wn/\wn<=100000)(w:z9)(e:TS w a c.n c.F c.W c.K):Calls prog 232 #[(cZz c a cap),I k,I wn] w (Rz w (.tuple #[I (c.F k),I (wn*qm c k),I ((wn+1)*qm c k)])):=by
 have x:=q.n4;obtain⟨S,V⟩:=q.F k A;obtain⟨a4,a5⟩:=q.wh (t:=(k:Int)) (by omega) (by omega);obtain⟨a6,a7⟩:=q.wh S V;obtain⟨d,v⟩:=Xy q A;obtain⟨C,D⟩:=J;have i:R w.1.size w (w.alloc (.cells (aZz c a cap) 89)):=(Q _ _).alloc (E _) _;have a2:0<=wn*qm c k/\wn*qm c k<=100000000:=⟨Int.mul_nonneg C d,by have:=Int.mul_le_mul D v d (by omega);omega⟩;have a3:0<=(wn+1)*qm c k/\(wn+1)*qm c k<=100001000:=⟨Int.mul_nonneg (by omega) d,by have:=Int.mul_le_mul (show wn+1<=100001 by omega) v d (by omega);omega⟩;have m:=fun W y=>ze (kL c.s c.le c.la c.wi c.ke c.qu a c.n cap c.F c.W c.K (k:Int) (by omega) (by omega) x W (e.below (w':=W) y));have l:=fun W y=>ze (kL c.s c.le c.la c.wi c.ke c.qu a c.n cap c.F c.W c.K (c.F k) S V x W (e.below (w':=W) y));have O:zQ c.wi c.W (k:Int)=c.wh (k:Int):=rfl;have P:zQ c.wi c.W (c.F k)=c.wh (c.F k):=rfl;simp only[O]at m;simp only[P]at l;have HM:Hid (c.wh (k:Int)/c.wh (c.F k)=qm c k):=rfl;have Y:=zq w (.cells (aZz c a cap) 89);have qz:=zM w (.cells (aZz c a cap) 89);obtain⟨y0,y1,y2,y3,y4,y5,y6,-⟩:=zc Y;obtain⟨b,L,rfl,a0,r⟩:=e.below i (by omega);obtain⟨x0,-,-⟩:=r k A;have a1:(k:Int)<c.n:=by omega
 have f:=ze i;have Z:=ze qz;clear r e i O P Y;generalize qm c k=M at*;generalize c.wh (k:Int)=wk at*;generalize c.wh (c.F k)=wf at*;go_enter func232,ntmps232;go_wp2_with fail;have q1:w.1.size<w.1.size+1:=by omega
 have q2:b<w.1.size+1:=by omega
 generalize(w.alloc (.cells (aZz c (G (U b L)) cap) 89))=X at*;generalize hN:w.1.size+1=N at*;have H:Nonempty (xg N X):=xg.some _ _;have B:=fun(u:xg N X) b o h=>u.cell b o h;have p:N<=X.1.size:=by rw[ud Z];exact E _
 have j:=ze p;have g:Hid (w.1.size<=N):=by show w.1.size<=N;omega
 clear p hN;refine zy N (by kernel_rfl) (by kernel_rfl) ?_;repeat(go_big_quiet_step (first
  |(go_at_call 237;first|(with_reducible exact Calls.later (ud j) (ud (m _ ((ud f).trans (Below.mono (Subtype.property _) (ud g))))))|(with_reducible exact Calls.later (ud j) (ud (l _ ((ud f).trans (Below.mono (Subtype.property _) (ud g)))))))))
 refine wpQuiet_nil ?_;rintro⟨w1,z⟩;clear B H;dsimp only;go_wp2_with fail
 go_ret3
 have hm:=ud HM;rw[hm];have r1:wrap64 (wn*M)=wn*M:=by unfold wrap64;omega
 have r2:wrap64 ((wn+1)*M)=(wn+1)*M:=by unfold wrap64;omega
 rw[r1,r2];exact⟨rfl,(ud f).trans (z.mono (ud g))⟩
attribute [local go_sem] Oper.semAt_some
def yw(c:Cf)(k:Sg):List Sg:=(VD c k.t (k.wn*c.wh k.t) c.n).map (fun p=>⟨p.1,k.sr,p.2⟩)
noncomputable def J9 (sr:Int) (p:WP):WSg:=zkp ⟨p.1.1,sr,p.1.2⟩
theorem Ja{sr:Int}(h:xz sr)(p:WP):(J9 sr p).1=⟨p.1.1,sr,p.1.2⟩:=YN ⟨p.2.1,h,p.2.2⟩
structure HR(W:z9)(Bp Bk s:Nat)(k:Sg)(c:Cf)(tv:za)(lb gb:Nat):Prop where
 bp:W.1[Bp]?=G (.cells #[(O s)] 90 (0,0))
 bk:W.1[Bk]?=G (.cells #[I k.t,I k.sr,I k.wn] 146 (0,0))
 hd:vw W s c tv lb gb
theorem HR.later(h:HR W Bp Bk s k c tv lb gb)(a:R W.1.size W W'):HR W' Bp Bk s k c tv lb gb:=
 ⟨(a.block _ (zd h.bp)).trans h.bp,(a.block _ (zd h.bk)).trans h.bk,h.hd.later a⟩
theorem HR.kx(h:HR W Bp Bk s k c tv lb gb)(a:KX ex n m W W')(b:Bp<n/\¬ex Bp)(d:Bk<n/\¬ex Bk)(f:s<n/\¬ex s)(i:∀g,tv.ownBlock=G g->g<n/\¬ex g):HR W' Bp Bk s k c tv lb gb:=
 ⟨qC a h.bp b.1 b.2,qC a h.bk d.1 d.2,h.hd.kept a.kept (fun e=>e.elim f.2 (by omega)) (fun g j e=>by have:=i g j;exact e.elim this.2 (by omega))⟩
theorem HR.kept(h:HR W Bp Bk s k c tv lb gb)(a:zi f W W')(b:¬f Bp)(d:¬f Bk)(e:¬f s)(i:∀g,tv.ownBlock=G g->¬f g):HR W' Bp Bk s k c tv lb gb:=
 ⟨a.heap h.bp b,a.heap h.bk d,h.hd.kept a e i⟩
theorem TS.same{B:z9}{F W K:Nat->Int}(h:TS A a n F W K)(m:A.1.size<=B.1.size)(g:∀b c,a=G (U b c)->B.1[b]?=A.1[b]?):TS B a n F W K:=fun f=>by
 obtain⟨b,c,e,l,j⟩:=h f;have d:∀o,B.cell? (U b o)=A.cell? (U b o):=fun o=>by unfold World.cell?;rw[g b c e]
 exact⟨b,c,e,by omega,fun i k=>by rw[d,d,d];exact j i k⟩
theorem VR(s:Nat)(k:Sg)(w:z9):
  Calls prog 178 #[(O s),.agg #[I k.t,I k.sr,I k.wn]] w fun e w'=>e=.returned (.func (.func 235) #[] #[(O w.1.size),(O (w.1.size+1))])/\w'=(w.alloc (.cells #[(O s)] 90)).alloc (.cells #[I k.t,I k.sr,I k.wn] 146):=by
 go_enter func178,ntmps178;go_wp2_with fail;go_ret;exact⟨rfl,rfl⟩
structure KY(ex:Nat->Prop)(n m l:Nat)(A B:z9):Prop where
 kept:zi (fun k=>ex k\/n<=k) A B
 walk:∀k o,¬ex k->A.1[k]?=G o->o.isWalk=true->B.1[k]?=G o
 high:∀k o,k≠l->m<=k->¬zqO o->A.1[k]?=G o->B.1[k]?=G o
theorem KY.trans{B C:z9}(h:KY ex n m l A B)(k:KY ex n m l B C):KY ex n m l A C:=⟨h.kept.trans k.kept (fun _ _ h=>h),fun i o a b d=>k.walk i o a (h.walk i o a b d) d,fun i o c a hn b=>k.high i o c a hn (h.high i o c a hn b)⟩
theorem KX.y{B:z9}(h:KX ex n m A B)(l:Nat):KY ex n m l A B:=⟨h.kept,h.walk,fun k o _=>h.high k o⟩
theorem KY.putObj{o:Obj}(o':Obj)(b:n<=l)(h:W.1[l]?=G o)(d:o.isWalk=false):KY ex n m l W (W.putObj l o'):=
 ⟨(zi.refl _ _).grown (grownBy_putObj' W l o') (fun k e _=>by cases e;exact .inr b),fun k p f a c=>by
  by_cases e:k=l
  ·subst e;rw[h]at a;cases a;rw[d]at c;cases c
  ·exact(World.putObj_heap_other e).trans a,fun k p b f _ a=>(World.putObj_heap_other b).trans a⟩
theorem zeq(Bp Bk s:Nat)(k:Sg)(c:Cf)(hc:c.ok)(tv:za)(lb gb:Nat)(a5: -1<=k.t)(d:k.t<c.n)(ai:0<=k.wn/\k.wn<=100000)(aj:xz k.sr)(w:z9)(hn:n<=w.1.size)(hR:HR w Bp Bk s k c tv lb gb)(h1:Bp<n/\¬ex Bp)(h2:Bk<n/\¬ex Bk)(h3:s<n/\¬ex s)(h4:∀g,tv.ownBlock=G g->g<n/\¬ex g):
  jx ex n prog 235 #[(O Bp),(O Bk)] (fun x:WSg=>#[.agg #[I x.1.t,I x.1.sr,I x.1.wn]]) (fun xs=>xs=((VD c k.t (k.wn*c.wh k.t) c.n).map Vx).map (J9 k.sr)) c.n w:=by
 intro m hm l J Jx W0 hW aQ hJ ae hY h0;have af:=hR.later hW;obtain⟨a,cap,rfl⟩:=zR hR.hd.trow;have aH:=hW.size;have V:R W0.1.size W0 (W0.alloc (.cells #[.func (.yield l) #[] #[]] 206)):=(Q _ _).alloc (E _) _;have am:=zq W0 (.cells #[.func (.yield l) #[] #[]] 206);have al:=zM W0 (.cells #[.func (.yield l) #[] #[]] 206);have j:=af.later V;have ac:=zN hJ h0 V;have ag:=hW.trans (V.mono aH);have aF:0<=k.wn*c.wh k.t/\k.wn*c.wh k.t<=1000000000:=by
  obtain⟨aS,aG⟩:=hc.wh a5 d;constructor
  ·exact Int.mul_nonneg (by omega) (by omega)
  ·have:=Int.mul_le_mul (show k.wn<=100000 by omega) aG (by omega) (by omega);omega
 have ao:=ze (VW c hc a cap k.t k.wn a5 d ai _ (TS.of_owns j.hd.trow));have a6:=ze (VW c hc a cap k.t k.wn a5 d ai (W0.alloc (.cells #[.func (.yield l) #[] #[]] 206)).drew (TS.of_owns j.hd.trow));obtain⟨c0,c1,c2,c3,c4,c5,c6,-,-⟩:=j.hd.cells;have u:=j.hd.lt;obtain⟨p0,-⟩:=zc j.bp;obtain⟨k0,-,k2,-⟩:=zc j.bk;have aD:=zd j.bp;have aa:=zd j.bk;have HC:=ze hc;have ax:=ze j;have aB:=ze am;have az:=ze al;have au:=ze ac;have HJ:=ze hJ;have a7:=ze ae;have HY:=ze hY;have a9:=ze ag;have aw:=ze aj;clear hR af j am al ac hJ ae hY V ag hc h0 aj;refine callsIn_wide.2 ((callsIn_wide (n:=7)).1 ?_);refine callsIn_of_wp_marks func235 rfl trivial ?_ rfl;simp only[ntmps235,sZz,Nat.reduceAdd,Nat.reduceSub];refine wpIn_wide.2 ?_;go_wp2_with fail;generalize(W0.alloc (.cells #[.func (.yield l) #[] #[]] 206))=X at*;go_region_held3 (fun w'=>w'.cell? (U Bp 0)=G (O s)/\w'.cell? (U s 0)=G (I c.s)/\w'.cell? (U s 1)=G (I c.le)/\w'.cell? (U s 2)=G (I c.la)/\w'.cell? (U s 3)=G (I c.wi)/\w'.cell? (U s 4)=G (I c.ke)/\w'.cell? (U s 5)=G (I c.qu)/\w'.cell? (U s 6)=G (.slice a c.n cap)/\w'.cell? (U Bk 0)=G (I k.t)/\w'.cell? (U Bk 2)=G (I k.wn)) (go_keep) (first
  |(go_at_call 236;(first|refine(ud ao).mono ?_|refine(ud a6).mono ?_);rintro e C ⟨Bs,rfl,L,ab,i⟩;have d0:=(i.cell (p:=(U Bp 0)) aD).trans p0;have d1:=(i.cell (p:=(U s 0)) u).trans c0;have d2:=(i.cell (p:=(U s 1)) u).trans c1;have d3:=(i.cell (p:=(U s 2)) u).trans c2;have d4:=(i.cell (p:=(U s 3)) u).trans c3;have d5:=(i.cell (p:=(U s 4)) u).trans c4;have d6:=(i.cell (p:=(U s 5)) u).trans c5;have d7:=(i.cell (p:=(U s 6)) u).trans c6;have d8:=(i.cell (p:=(U Bk 0)) aa).trans k0;have d9:=(i.cell (p:=(U Bk 2)) aa).trans k2;have ap:=ze L;have H:=ze i;clear L i))
 go_wp2_with fail;have an:X.1.size=W0.1.size+1:=ud az;have M:R X.1.size X C:=⟨(ud H).os,(ud H).tape,(ud H).output,(ud H).size,(ud H).block⟩;have L:AR C X.1.size Bs c a cap k.t (k.wn*c.wh k.t):=ud ap;have aJ:X.1.size<=Bs:=ab;have aL:=M.size;have HV:=ze M;have v:=ze L;have aK:=ze ((ud a9).trans (M.mono (ud a9).size));have av:=ze (zN (ud HJ) (ud au) ⟨M.os,M.tape,M.output,M.size,M.block⟩);have a8:=ze ((ud ax).later M);have aC:=ze ((M.block _ (by omega)).trans (ud aB));obtain⟨g,aI,ah,aO,aP⟩:=(ud a8).hd.trow.form (by have:=(ud HC).n1;omega);have N:a=G (U g 0):=by injection ah
 have aE:=h4 g (by rw[N];rfl);have aT:=zd (ud v).b1;have aU:=zd (ud v).b2;have aR:m<=C.1.size:=by omega
 have aM:W0.1.size<C.1.size:=by omega
 clear d0 d1 d2 d3 d4 d5 d6 d7 d8 d9 c0 c1 c2 c3 c4 c5 c6 p0 k0 k2 ah ab L M;refine(wpIn_wide (n:=7)).1 ?_;refine yg (F:=Fence.wide) (n:=7) (m:=0) rfl (by omega) (gf:=264) (lb:=#[(O X.1.size),(O (X.1.size+1)),(O Bs)]) rfl trivial zaL
  (zhb X.1.size Bs c (ud HC) a cap k.t (k.wn*c.wh k.t) aF (KY ex n m (C.1.size+1)) (fun A B Y hA=>⟨Y.high _ _ (by omega) (by omega) (fun⟨_,_,e⟩=>by cases e) hA.b0,Y.high _ _ (by omega) (by omega) (fun⟨_,_,e⟩=>by cases e) hA.b1,Y.high _ _ (by have:=zd (ud v).b2;omega) (by omega) (fun⟨_,_,e⟩=>by cases e) hA.b2,TS.same hA.ts Y.kept.size (fun b aX e=>by rw[N]at e;injection e with e;injection e with e1 e2;subst e1;exact Y.kept.block _ (by have:=hA.ts;obtain⟨b',o',e3,h5,_⟩:=this (by have:=(ud HC).n1;omega);rw[N]at e3;injection e3 with e3;injection e3 with e3 _;rw[e3];exact h5) (fun e=>e.elim aE.2 (by omega)))⟩) (fun A B Y=>Y.kept.size) 0 C (ud v)) (Nat.zero_le _) (fun h k=>h.trans k) (fun W o o' h hc hw=>KY.putObj o' (by omega) h hw) (Q _ _) (fun _=>rfl)
  (fun z W=>J (z.map (J9 k.sr)) W/\HR W Bp Bk s k c (.slice a c.n cap) lb gb/\W.1[W0.1.size]?=G (.cells #[.func (.yield l) #[] #[]] 206 (0,0))/\C.1.size<=W.1.size)
  (fun c z W=>c=.ret/\∃q,Jx q W)
  (fun s A B row Z P S=>⟨ud HJ _ A B row Z.1 P (fun r e=>⟨by have:=(S r e).1;omega,(S r e).2⟩),Z.2.1.kept (f:=fun k=>C.1.size<=k) ⟨P.os,P.tape,P.output,P.size,fun k Y hn=>P.block k Y (fun e=>hn (S k e.symm).1)⟩ (by have:=h1.1;omega) (by have:=h2.1;omega) (by have:=h3.1;omega) (fun g hh=>by have:=(h4 g hh).1;omega),zv Z.2.2.1 P (fun r e=>(S r e).2),zb Z.2.2.2 P.size⟩)
  (fun c s A B row Z P S=>⟨Z.1,by obtain⟨q,hq⟩:=Z.2;exact⟨q,ud a7 q A B row hq P (fun r e=>⟨by have:=(S r e).1;omega,(S r e).2⟩)⟩⟩)
  ⟨ud av,ud a8,ud aC,E _⟩
  (fun x a' W=>a'={tmps:=#[.func (.yield l) #[] #[],(O Bp),(O Bk),(O W0.1.size),I x.1.1,I x.1.2,(O s),(O s),(O s),(cZz c a cap),(O Bk),I k.t,.pointer (G (U Bk 2)),I k.wn,.func (.func 264) #[] #[(O X.1.size),(O (X.1.size+1)),(O Bs)],I x.1.1,I x.1.2,undef,undef,undef,undef,undef,undef,undef,undef],defers:=[]})
  (fun x a' s A B row Z P S=>Z) ?assign ?body ?done ?stop
 case assign=>
  rintro l' z x W K hi hK;have HK:=ze hK;have HI:=ze hi;clear hK hi an N;gi_wp2;exact ud HK _ _ (KeepsFrom.refl _ _) ((KX.refl _ _ _ _).y _) (ud HI) rfl
 case body=>
  rintro l' z x a' W hl ⟨r,S⟩ ⟨i1,i2,i3,i4⟩ rfl ak;have aN:=zd i2.bk;have aV:=zd i3;obtain⟨-,k1,-⟩:=zc i2.bk;obtain⟨y0,-⟩:=zc i3;obtain⟨fn,tmps,assign,body,hy,hR⟩:=vt (m':=4) rfl (ud HY (z.map (J9 k.sr)) (J9 k.sr x) W i1 (by rw[List.length_map];exact ak));rw[Ja (ud aw)]at hy;dsimp only at hy;have aq:=ze i2;have ar:=ze i3;clear i1 i2 i3 S an N;gi_wp2;refine RoundIn.mono (F:=Fence.wide.inRound l') hR ?_;rintro e W2 (⟨rfl,ad,d⟩|⟨rfl,a0,d⟩)
  ·have a3:=ze (d.from (q:=C.1.size) (by omega));have a4:=ze (d.y (C.1.size+1));have ay:=ze ((ud aq).kx d h1 h2 h3 h4);have aA:=ze (d.high _ _ (by omega) (fun⟨_,_,e⟩=>by cases e) (ud ar));have aW:=d.kept.size;have a1:=ze ad;clear ad d;gi_wp2;exact⟨ud a3,ud a4,by rw[List.map_append,List.map_singleton];exact ud a1,ud ay,ud aA,by omega⟩
  ·have a3:=ze (d.from (q:=C.1.size) (by omega));have a4:=ze (d.y (C.1.size+1));have a1:=ze a0;clear a0 d;gi_wp2;exact⟨ud a3,ud a4,rfl,_,ud a1⟩
 case done=>
  rintro D xs W hD hS ⟨i1,-,-,-⟩ hK;have a2:=ze (OwnFrom.putObj (ud HJ) (.deferred none) i1 (by omega) hK rfl);subst hS;clear i1;gi_wp2;refine⟨by simp,.inl ⟨_,_,rfl,run_takeDeferred hK,?_⟩⟩;exact⟨_,results_none rfl _ _ _,⟨_,rfl⟩,.inl ⟨_,rfl,ud a2⟩⟩
 case stop=>
  rintro D c z W hD hS ⟨rfl,q,hq⟩ hK;have a2:=ze (OwnFrom.putObj (ud a7) (.deferred none) hq (by omega) hK rfl);clear hq;gi_wp2;refine⟨by simp,.inl ⟨_,_,rfl,run_takeDeferred hK,?_⟩⟩;exact⟨_,results_none rfl _ _ _,⟨_,rfl⟩,.inr ⟨_,trivial,ud a2⟩⟩
theorem Kh:∀args w,(callFunc 235 args).run prog w=.ok (.enter 235 args) w:=enters_of func235 (by kernel_rfl) rfl
def yU(c:Cf)(Bl:List (Sg×Unit))(L:LV)(now:Int)(k:Sg):Bool:=(zE Bl k).isNone&&((stL L k).st==2)&&decide ((k.wn+1)*c.wh k.t<=now-c.la)
theorem zap(h:xI w s c tv lb gb Gl L)(hc:c.ok)(B:xi jA w ob Bl)(k:Sg)(hk:k.wf)(S: -1<=k.t)(V:k.t<c.n)(Y:0<=k.wn/\k.wn<=100000)(now:Int)(A:0<=now/\now<=100000)(D Bp r:Nat)(b1:w.cell? (U D 0)=G (.map (G ob)))(b2:w.cell? (U Bp 0)=G (O s))(b3:w.cell? (U r 0)=G (I now))(l1:D<w.1.size)(l2:Bp<w.1.size)(l3:r<w.1.size):
  Calls prog 174 #[.agg #[I k.t,I k.sr,I k.wn],(O D),(O Bp),(O r)] w (Rz w (.bool (yU c Bl L now k))):=by
 obtain⟨a,cap,rfl⟩:=zR h.trow;have f:=h.lt;have g:R w.1.size w (w.alloc (.cells #[I k.t,I k.sr,I k.wn] 146)):=(Q _ _).alloc (E _) _;have y0:=zq w (.cells #[I k.t,I k.sr,I k.wn] 146);have yz:=zM w (.cells #[I k.t,I k.sr,I k.wn] 146);obtain⟨c0,c1,c2,c3,c4,c5,c6,-,-⟩:=h.cells;have i:=fun W M=>ze (ZU (h.later (w':=W) M) k hk);have x:=fun W M=>ze (Ks c hc a cap k.t k.wn now S V Y A W ((TS.of_owns h.trow).below (w':=W) M));obtain⟨v,hv⟩:∃v,stL L k=v:=⟨_,rfl⟩;obtain⟨d,P⟩:∃d,decide ((k.wn+1)*c.wh k.t<=now-c.la)=d:=⟨_,rfl⟩;have H:Hid (yU c Bl L now k=((zE Bl k).isNone&&(v.st==2)&&d)):=by show yU c Bl L now k=_;unfold yU;rw[hv,P]
 rw[ud H];rw[hv]at i;rw[P]at x;have F:=fun X z=>kK Xr true (B.later (w':=X) z) hk;clear h B hc hv P;cases hg:zE Bl k;case' some u=>
  have K:∀X,R w.1.size w X->(Instr.lookup 153 (.map (G ob)) (.agg #[I k.t,I k.sr,I k.wn]) true).run prog X=.ok (.tuple #[.agg #[],.bool true]) X:=fun X z=>by have:=F X z;rw[hg]at this;exact this
 case' none=>
  have K:∀X,R w.1.size w X->(Instr.lookup 153 (.map (G ob)) (.agg #[I k.t,I k.sr,I k.wn]) true).run prog X=.ok (.tuple #[.agg #[],.bool false]) X:=fun X z=>by have:=F X z;rw[hg]at this;exact this
  cases j:(v.st==2);case' false=>
   rw[j]at i;clear j
  case' true=>
   rw[j]at i;clear j;cases d
 all_goals
  have q0:=K _ g
  obtain⟨k0,k1,k2,-⟩:=zc y0
  have m1:=(g.cell (p:=(U D 0)) l1).trans b1
  have q:R (w.1.size+1) (w.alloc (.cells #[I k.t,I k.sr,I k.wn] 146)) ((w.alloc (.cells #[I k.t,I k.sr,I k.wn] 146)).alloc Vz):=(Q _ _).alloc (by rw[yz];omega) _
  have e:R w.1.size w ((w.alloc (.cells #[I k.t,I k.sr,I k.wn] 146)).alloc Vz):=g.trans (q.mono (by omega))
  have C:((w.alloc (.cells #[I k.t,I k.sr,I k.wn] 146)).alloc Vz).1.size=w.1.size+2:=by rw[zM,yz]
  have y2:=(q.block w.1.size (by omega)).trans y0
  obtain⟨z0,z1,z2,-⟩:=zc y2
  have n2:=(e.cell (p:=(U Bp 0)) l2).trans b2
  have n3:=(e.cell (p:=(U r 0)) l3).trans b3
  have s0:=(e.cell (p:=(U s 0)) f).trans c0
  have s1:=(e.cell (p:=(U s 1)) f).trans c1
  have s2:=(e.cell (p:=(U s 2)) f).trans c2
  have s3:=(e.cell (p:=(U s 3)) f).trans c3
  have s4:=(e.cell (p:=(U s 4)) f).trans c4
  have s5:=(e.cell (p:=(U s 5)) f).trans c5
  have s6:=(e.cell (p:=(U s 6)) f).trans c6
  have l:=ze e
  have J:=ze C
  clear F K g y0 yz b1 b2 b3 q e y2 C c0 c1 c2 c3 c4 c5 c6
  go_enter func174,ntmps174
  go_wp2_with fail
  have r1:w.1.size<w.1.size+2:=by omega
  have r2:Bp<w.1.size+2:=by omega
  have r3:r<w.1.size+2:=by omega
  have r4:s<w.1.size+2:=by omega
  have m:Hid (w.1.size<=w.1.size+2):=by show w.1.size<=w.1.size+2;omega
  clear k0 k1 k2 m1 q0
  generalize((w.alloc (.cells #[I k.t,I k.sr,I k.wn] 146)).alloc Vz)=X at*
  generalize w.1.size+2=N at*
  have y:Hid (N<=X.1.size):=by show N<=X.1.size;rw[ud J];exact E _
  have a0:Nonempty (xg N X):=xg.some _ _
  have Z:=fun(u:xg N X) b o h=>u.cell b o h
  refine zy N (by kernel_rfl) (by kernel_rfl) ?_
  repeat(go_big_quiet_step (first
   |(go_at_call 175;exact Calls.later (ud y) (ud (i _ ((ud l).trans (Below.mono (Subtype.property _) (ud m))))))
   |(go_at_call 117;exact Calls.later (ud y) (ud (x _ ((ud l).trans (Below.mono (Subtype.property _) (ud m))))))))
  refine wpQuiet_nil ?_
  rintro⟨w1,g⟩
  clear Z a0
  dsimp only
  go_wp2_with fail
  go_ret
  exact⟨rfl,(ud l).trans (g.mono (ud m))⟩
noncomputable def kO (c:Cf) (k:Sg):List WSg:=((VD c k.t (k.wn*c.wh k.t) c.n).map Vx).map (J9 k.sr)
theorem zbs(c:Cf)(k:Sg):(kO c k).length<=c.n:=by unfold kO;rw[List.length_map,List.length_map];exact zdW _ _ _ _
noncomputable def Zs (c:Cf) (L:LV) (k:Sg):Bool:=((((kO c k).filter (fun x=>(stL L x.1).st==2)).length:Int)==0)
noncomputable def yT (c:Cf) (L:LV) (now:Int) (k:Sg):Bool:=!((stL L k).st==2)&&decide ((k.wn+1)*c.wh k.t+c.keep k.t<=now)&&Zs c L k
theorem ziS{base:Nat}{e:TypeId}{size:Nat}{v:za}{xs:List za}(h:w.ownsRow base e size v n xs):∀k,v.ownBlock=G k->k<w.1.size:=fun k c=>by obtain⟨a,b⟩:=zH h c;exact zd b
theorem Yf:∀args w,(callFunc 175 args).run prog w=.ok (.enter 175 args) w:=enters_of func175 (by kernel_rfl) rfl
theorem zfG(h:xI w s c tv lb gb Gl L)(o:c.ok)(k:Sg)(v:k.wf)(i: -1<=k.t)(j:k.t<c.n)(l:0<=k.wn/\k.wn<=100000):
  Calls prog 119 #[.func (.func 235) #[] #[(O w.1.size),(O (w.1.size+1))],.func (.func 175) #[(O s)] #[]] ((w.alloc (.cells #[(O s)] 90)).alloc (.cells #[I k.t,I k.sr,I k.wn] 146)) fun e w'=>e=.returned (I ((kO c k).filter (fun x=>(stL L x.1).st==2)).length)/\R ((w.alloc (.cells #[(O s)] 90)).alloc (.cells #[I k.t,I k.sr,I k.wn] 146)).1.size ((w.alloc (.cells #[(O s)] 90)).alloc (.cells #[I k.t,I k.sr,I k.wn] 146)) w':=by
 obtain⟨z,A,d,b⟩:=box2 w (.cells #[(O s)] 90) (.cells #[I k.t,I k.sr,I k.wn] 146);have m:=h.later d;have y:=h.lt;have a:∀g,tv.ownBlock=G g->g<w.1.size:=fun g f=>ziS h.trow g f;refine(zhI (fun x:WSg=>x.1) 235 _ Kh 175 #[(O s)] #[] Yf (fun x=>(stL L x.1).st==2) _ (fun x W q=>ZU (m.later q) x.1 x.2)
  (zeq (ex:=fun _=>False) w.1.size (w.1.size+1) s k c o tv lb gb i j l v.2.1 _ (E _) ⟨z,A,m.hd⟩ ⟨by rw[b];omega,fun e=>e⟩ ⟨by rw[b];omega,fun e=>e⟩ ⟨by rw[b];omega,fun e=>e⟩ (fun g f=>⟨by have:=a g f;rw[b];omega,fun e=>e⟩))
  (fun xs e=>by rw[e];have:=zbs c k;have:=o.n4;unfold kO at*;omega)).mono ?_
 rintro e w' ⟨xs,p,u,r⟩;subst p;exact⟨u,r⟩
theorem Yq(h:xI w s c tv lb gb Gl L)(hc:c.ok)(k:Sg)(hk:k.wf)(bk: -1<=k.t)(bl:k.t<c.n)(aP:0<=k.wn/\k.wn<=100000)(now:Int)(bm:0<=now/\now<=100000)(Bp Z:Nat)(b2:w.cell? (U Bp 0)=G (O s))(b3:w.cell? (U Z 0)=G (I now))(l2:Bp<w.1.size)(l3:Z<w.1.size):
  Calls prog 176 #[.agg #[I k.t,I k.sr,I k.wn],(O Bp),(O Z)] w (Rz w (.bool (yT c L now k))):=by
 obtain⟨a,cap,rfl⟩:=zR h.trow;have K:=h.lt;have j:R w.1.size w (w.alloc (.cells #[I k.t,I k.sr,I k.wn] 146)):=(Q _ _).alloc (E _) _;have y0:=zq w (.cells #[I k.t,I k.sr,I k.wn] 146);have yz:=zM w (.cells #[I k.t,I k.sr,I k.wn] 146);obtain⟨c0,c1,c2,c3,c4,c5,c6,-,-⟩:=h.cells;have D:=fun W hW=>ze (ZU (h.later (w':=W) hW) k hk);have Y:=fun W hW=>ze (zbB c hc a cap k.t k.wn bk bl aP W ((TS.of_owns h.trow).below (w':=W) hW));have aJ:=fun W=>ze (VR s k W);have ae:=fun W hW=>ze (zfG (h.later (w':=W) hW) hc k hk bk bl aP);obtain⟨v,hv⟩:∃v,stL L k=v:=⟨_,rfl⟩;obtain⟨u,hu⟩:∃u,(k.wn+1)*c.wh k.t+c.keep k.t=u:=⟨_,rfl⟩;obtain⟨q,hq⟩:∃q:Nat,((kO c k).filter (fun x=>(stL L x.1).st==2)).length=q:=⟨_,rfl⟩;have bp:Hid (yT c L now k=(!(v.st==2)&&decide (u<=now)&&((q:Int)==0))):=by show yT c L now k=_;unfold yT Zs;rw[hv,hu,hq]
 rw[ud bp];rw[hv]at D;rw[hu]at Y;rw[hq]at ae;have ba:=(j.cell (p:=(U Bp 0)) l2).trans b2;have bb:=(j.cell (p:=(U Z 0)) l3).trans b3;have bc:=(j.cell (p:=(U s 0)) K).trans c0;have bd:=(j.cell (p:=(U s 1)) K).trans c1;have be:=(j.cell (p:=(U s 2)) K).trans c2;have bf:=(j.cell (p:=(U s 3)) K).trans c3;have bg:=(j.cell (p:=(U s 4)) K).trans c4;have bh:=(j.cell (p:=(U s 5)) K).trans c5;have bi:=(j.cell (p:=(U s 6)) K).trans c6;obtain⟨bj,aG,aH,-⟩:=zc y0;have y:s<(w.alloc (.cells #[I k.t,I k.sr,I k.wn] 146)).1.size:=by rw[yz];omega
 have ac:Bp<(w.alloc (.cells #[I k.t,I k.sr,I k.wn] 146)).1.size:=by rw[yz];omega
 have ad:Z<(w.alloc (.cells #[I k.t,I k.sr,I k.wn] 146)).1.size:=by rw[yz];omega
 have J:w.1.size<(w.alloc (.cells #[I k.t,I k.sr,I k.wn] 146)).1.size:=by rw[yz];omega
 have C:=ze j;have af:=D _ j;have M:=D (w.alloc (.cells #[I k.t,I k.sr,I k.wn] 146)).drew j.drew;clear h hc hv hu hq b2 b3 j y0 yz c0 c1 c2 c3 c4 c5 c6 aP hk bm;cases ag:(v.st==2)with
 |true=>
  rw[ag]at D
  clear ag af M
  have aM:Hid ((w.alloc (.cells #[I k.t,I k.sr,I k.wn] 146)).1.size=w.1.size+1):=zM w _
  go_enter func176,ntmps176
  go_wp2_with fail
  have r1:w.1.size<w.1.size+1:=by omega
  have r2:Bp<w.1.size+1:=by omega
  have r3:Z<w.1.size+1:=by omega
  have r4:s<w.1.size+1:=by omega
  have H:Hid (w.1.size<=w.1.size+1):=by show w.1.size<=w.1.size+1;omega
  clear y ac ad J
  generalize(w.alloc (.cells #[I k.t,I k.sr,I k.wn] 146))=X at*
  generalize w.1.size+1=N at*
  have a1:Hid (N<=X.1.size):=by show N<=X.1.size;rw[ud aM];exact E _
  have aR:Nonempty (xg N X):=xg.some _ _
  have aQ:=fun(u:xg N X) b o h=>u.cell b o h
  refine zy N (by kernel_rfl) (by kernel_rfl) ?_
  repeat(go_big_quiet_step (first
   |(go_at_call 175;exact Calls.later (ud a1) (ud (D _ ((ud C).trans (Below.mono (Subtype.property _) (ud H))))))
   |(go_at_call 177;exact Calls.later (ud a1) (ud (Y _ ((ud C).trans (Below.mono (Subtype.property _) (ud H))))))))
  refine wpQuiet_nil ?_
  rintro⟨w1,j⟩
  clear aQ aR
  dsimp only
  go_wp2_with fail
  go_ret
  exact⟨rfl,(ud C).trans (j.mono (ud H))⟩
 |false=>
  rw[ag]at D af M
  clear ag
  by_cases bn:u<=now
  ·have hd:decide (u<=now)=true:=by simpa using bn
   rw[hd]
   clear D
   go_enter func176,ntmps176
   go_wp2_with fail
   generalize(w.alloc (.cells #[I k.t,I k.sr,I k.wn] 146))=X at*
   go_region_held3 (fun w'=>w'.cell? (U Bp 0)=G (O s)/\w'.cell? (U Z 0)=G (I now)/\w'.cell? (U s 0)=G (I c.s)/\w'.cell? (U s 1)=G (I c.le)/\w'.cell? (U s 2)=G (I c.la)/\w'.cell? (U s 3)=G (I c.wi)/\w'.cell? (U s 4)=G (I c.ke)/\w'.cell? (U s 5)=G (I c.qu)/\w'.cell? (U s 6)=G (.slice a c.n cap)/\w'.cell? (U w.1.size 0)=G (I k.t)/\w'.cell? (U w.1.size 1)=G (I k.sr)/\w'.cell? (U w.1.size 2)=G (I k.wn)) (go_keep) (first
    |(go_at_call 175;(first|refine(ud af).mono ?_|refine(ud M).mono ?_);rintro e V1 ⟨rfl,z⟩;have d:R X.1.size X V1:=⟨z.os,z.tape,z.output,z.size,z.block⟩;have a6:=d.size;have l:=T y a6;have a4:=T ac a6;have a5:=T ad a6;have F:=T J a6;have ai:=(d.cell (p:=(U Bp 0)) ac).trans ba;have aj:=(d.cell (p:=(U Z 0)) ad).trans bb;have ak:=(d.cell (p:=(U s 0)) y).trans bc;have al:=(d.cell (p:=(U s 1)) y).trans bd;have am:=(d.cell (p:=(U s 2)) y).trans be;have an:=(d.cell (p:=(U s 3)) y).trans bf;have ao:=(d.cell (p:=(U s 4)) y).trans bg;have ap:=(d.cell (p:=(U s 5)) y).trans bh;have aq:=(d.cell (p:=(U s 6)) y).trans bi;have ar:=(d.cell (p:=(U w.1.size 0)) J).trans bj;have a2:=(d.cell (p:=(U w.1.size 1)) J).trans aG;have a3:=(d.cell (p:=(U w.1.size 2)) J).trans aH;have S:=(ud C).trans (d.mono (ud C).size);have aU:=Y V1 S;have aK:=Y V1.drew S.drew;have ah:=ze S;clear z d S a6 Y ba bb bc bd be bf bg bh bi bj aG aH y ac ad J)
    |(go_at_call 177;(first|refine(ud aU).mono ?_|refine(ud aK).mono ?_);rintro e V2 ⟨rfl,A⟩;have f:R V1.1.size V1 V2:=⟨A.os,A.tape,A.output,A.size,A.block⟩;have a9:=f.size;have m:=T l a9;have aE:=T a4 a9;have aF:=T a5 a9;have P:=T F a9;have au:=(f.cell (p:=(U Bp 0)) a4).trans ai;have av:=(f.cell (p:=(U Z 0)) a5).trans aj;have aw:=(f.cell (p:=(U s 0)) l).trans ak;have ax:=(f.cell (p:=(U s 1)) l).trans al;have ay:=(f.cell (p:=(U s 2)) l).trans am;have az:=(f.cell (p:=(U s 3)) l).trans an;have aA:=(f.cell (p:=(U s 4)) l).trans ao;have aB:=(f.cell (p:=(U s 5)) l).trans ap;have aC:=(f.cell (p:=(U s 6)) l).trans aq;have aD:=(f.cell (p:=(U w.1.size 0)) F).trans ar;have a7:=(f.cell (p:=(U w.1.size 1)) F).trans a2;have a8:=(f.cell (p:=(U w.1.size 2)) F).trans a3;have V:=(ud ah).trans (f.mono (ud ah).size);have aV:=aJ V2;have aL:=aJ V2.drew;have aT:=ae V2 V;have aI:=ae V2.drew V.drew;have a0:=ze V;clear A f V a9 ae aJ ai aj ak al am an ao ap aq ar a2 a3 l a4 a5 F)
    |(go_at_call 178;(first|refine(ud aV).mono ?_|refine(ud aL).mono ?_);rintro e V3 ⟨rfl,rfl⟩;obtain⟨-,-,g,-⟩:=box2 V2 (.cells #[(O s)] 90) (.cells #[I k.t,I k.sr,I k.wn] 146);have ab:=g.size;have r:=T m ab;have b8:=T aE ab;have b9:=T aF ab;have aa:=T P ab;have aW:=(g.cell (p:=(U Bp 0)) aE).trans au;have aX:=(g.cell (p:=(U Z 0)) aF).trans av;have aY:=(g.cell (p:=(U s 0)) m).trans aw;have aZ:=(g.cell (p:=(U s 1)) m).trans ax;have b0:=(g.cell (p:=(U s 2)) m).trans ay;have b1:=(g.cell (p:=(U s 3)) m).trans az;have b4:=(g.cell (p:=(U s 4)) m).trans aA;have b5:=(g.cell (p:=(U s 5)) m).trans aB;have b6:=(g.cell (p:=(U s 6)) m).trans aC;have b7:=(g.cell (p:=(U w.1.size 0)) P).trans aD;have aN:=(g.cell (p:=(U w.1.size 1)) P).trans a7;have aO:=(g.cell (p:=(U w.1.size 2)) P).trans a8;have aS:=ze g;clear ab g au av aw ax ay az aA aB aC aD a7 a8)
    |(go_at_call 119;(first|refine(ud aT).mono ?_|refine(ud aI).mono ?_);rintro e V4 ⟨rfl,B⟩;have i:R ((V2.alloc (.cells #[(O s)] 90)).alloc (.cells #[I k.t,I k.sr,I k.wn] 146)).1.size ((V2.alloc (.cells #[(O s)] 90)).alloc (.cells #[I k.t,I k.sr,I k.wn] 146)) V4:=⟨B.os,B.tape,B.output,B.size,B.block⟩;have bs:=(i.cell (p:=(U Bp 0)) b8).trans aW;have bt:=(i.cell (p:=(U Z 0)) b9).trans aX;have bu:=(i.cell (p:=(U s 0)) r).trans aY;have bv:=(i.cell (p:=(U s 1)) r).trans aZ;have bw:=(i.cell (p:=(U s 2)) r).trans b0;have bx:=(i.cell (p:=(U s 3)) r).trans b1;have bz:=(i.cell (p:=(U s 4)) r).trans b4;have bA:=(i.cell (p:=(U s 5)) r).trans b5;have bB:=(i.cell (p:=(U s 6)) r).trans b6;have bC:=(i.cell (p:=(U w.1.size 0)) aa).trans b7;have bq:=(i.cell (p:=(U w.1.size 1)) aa).trans aN;have br:=(i.cell (p:=(U w.1.size 2)) aa).trans aO;have bo:=ze i;clear B i))
   all_goals(go_wp2_with fail)
   all_goals go_ret
   all_goals(exact⟨rfl,((ud a0).trans ((ud aS).mono (ud a0).size)).trans ((ud bo).mono (zb (ud a0).size (ud aS).size))⟩)
  ·have hd:decide (u<=now)=false:=by simpa using bn
   rw[hd]
   clear af M
   have aM:Hid ((w.alloc (.cells #[I k.t,I k.sr,I k.wn] 146)).1.size=w.1.size+1):=zM w _
   go_enter func176,ntmps176
   go_wp2_with fail
   have r1:w.1.size<w.1.size+1:=by omega
   have r2:Bp<w.1.size+1:=by omega
   have r3:Z<w.1.size+1:=by omega
   have r4:s<w.1.size+1:=by omega
   have H:Hid (w.1.size<=w.1.size+1):=by show w.1.size<=w.1.size+1;omega
   clear y ac ad J
   generalize(w.alloc (.cells #[I k.t,I k.sr,I k.wn] 146))=X at*
   generalize w.1.size+1=N at*
   have a1:Hid (N<=X.1.size):=by show N<=X.1.size;rw[ud aM];exact E _
   have aR:Nonempty (xg N X):=xg.some _ _
   have aQ:=fun(u:xg N X) b o h=>u.cell b o h
   refine zy N (by kernel_rfl) (by kernel_rfl) ?_
   repeat(go_big_quiet_step (first
    |(go_at_call 175;exact Calls.later (ud a1) (ud (D _ ((ud C).trans (Below.mono (Subtype.property _) (ud H))))))
    |(go_at_call 177;exact Calls.later (ud a1) (ud (Y _ ((ud C).trans (Below.mono (Subtype.property _) (ud H))))))))
   refine wpQuiet_nil ?_
   rintro⟨w1,j⟩
   clear aQ aR
   dsimp only
   go_wp2_with fail
   go_ret
   exact⟨rfl,(ud C).trans (j.mono (ud H))⟩
attribute [local go_sem] Oper.semAt_some
def inR(c:Cf)(s:Sg):Prop:=s.wf/\ -1<=s.t/\s.t<c.n/\0<=s.wn/\s.wn<=100000
abbrev RSg(c:Cf):={s:Sg//inR c s}
theorem zle(c:Cf):inR c ⟨-1,0,0⟩:=⟨by refine⟨?_,?_,?_⟩<;>(unfold xz;simp),by simp,by show(-1:Int)<c.n;omega,by simp,by simp⟩
noncomputable def zgl (c:Cf) (s:Sg):RSg c:=by classical exact if h:inR c s then⟨s,h⟩else⟨⟨-1,0,0⟩,zle c⟩
theorem vi{s:Sg}(h:inR c s):(zgl c s).1=s:=by unfold zgl;rw[dif_pos h]
theorem jB(g:c.ok)(a:inR c k)(x:Sg):x∈(kO c k).map (·.1)↔x∈yw c k:=by
 have d:0<=k.wn*c.wh k.t/\k.wn*c.wh k.t<=1000000000:=by
  obtain⟨l,f⟩:=g.wh a.2.1 a.2.2.1;have m:=a.2.2.2;constructor
  ·exact Int.mul_nonneg (by omega) (by omega)
  ·have:=Int.mul_le_mul (show k.wn<=100000 by omega) f (by omega) (by omega);omega
 have e:(kO c k).map (·.1)=yw c k:=by
  unfold kO yw;rw[List.map_map,List.map_map];apply List.map_congr_left;intro p h;unfold VD at h;obtain⟨i,j,rfl⟩:=List.mem_map.1 h;have b:i<c.n:=by have:=(List.mem_filter.1 j).1;simpa using this
  simp only[Function.comp];rw[Ja a.1.2.1,zcy (zha g d b)]
 rw[e]
theorem zpR(h:xi jA X ob Bl)(a:Bl.length<maxLen){s:Sg}(b:s.wf):
  ∃o,(Instr.mapUpdate 153 (.map (G ob)) (.agg #[I s.t,I s.sr,I s.wn]) (.agg #[])).run prog X=.ok () (setBlock X ob o)/\xi jA (setBlock X ob o) ob (qj Bl s ())/\zi (fun k=>k=ob) X (setBlock X ob o)/\o.isCells=false:=
 jK Xr h a b ()
theorem zmI(w:z9)(a b c:Obj):(((w.alloc a).alloc b).alloc c).1[w.1.size]?=G a/\(((w.alloc a).alloc b).alloc c).1[w.1.size+1]?=G b/\(((w.alloc a).alloc b).alloc c).1[w.1.size+2]?=G c/\R w.1.size w (((w.alloc a).alloc b).alloc c)/\(((w.alloc a).alloc b).alloc c).1.size=w.1.size+3:=by
 obtain⟨e,f,g,d⟩:=box2 w a b;refine⟨(Below.heap_alloc _ _ _ (by rw[d];omega)).trans e,(Below.heap_alloc _ _ _ (by rw[d];omega)).trans f,?_,g.alloc (by rw[d];omega) _,by simp⟩;have:=zq ((w.alloc a).alloc b) c;rw[d]at this;exact this
theorem ZS(h:zi (fun k=>k=ob) W W')(c:ob<m):KX (fun k=>k=ob) n m W W':=
 ⟨h.mono (fun k _ e=> .inl e),fun k o b a _=>h.heap a b,fun k o b _ a=>h.heap a (by omega)⟩
theorem Yi.deep{α:Type}{n':Nat}{lb:Array za}{encs:α->Array za}{S Sp:List α->Prop}(h:Yi Fence.wide n P g lb encs Kp S Sp N m w):Yi Fence.wide n' P g lb encs Kp S Sp N m w:=
 fun l J c W f k e a i d=>callsIn_wide.2 (callsIn_wide.1 (h l J c W f k e a (fun b x V hv j=>vt rfl (i b x V hv j)) d))
theorem Xw(h:zi (fun k=>k=ob) W W')(b:ob<B):KeepsFrom B W W':=⟨h.size,fun k o c a _=>h.heap a (by omega)⟩
theorem xI.kx(h:xI W s c tv lb gb Gl L)(d:KX ex n m W W')(a:∀k,Z0 s tv lb gb k->k<n/\¬ex k):xI W' s c tv lb gb Gl L:=
 h.kept d.kept (fun k b e=>by have:=a k b;exact e.elim this.2 (by omega))
theorem xI.foot_lt(h:xI W s c tv lb gb Gl L):∀k,Z0 s tv lb gb k->k<W.1.size:=fun k a=>by
 rcases a with rfl|a|rfl|rfl
 ·exact h.lt
 ·exact ziS h.trow k a
 ·exact h.live.lt
 ·exact h.gone.lt
theorem ziw{c m2:Nat}{V:z9}(h:KX ex c m2 V W)(hn:n<=c)(d:V.1.size<=c)(b:∀k,ex k->k<m):KX ex n m V W:=
 ⟨h.kept.mono (fun k _ e=>e.imp id (fun e=>by omega)),h.walk,fun k o f _ a=>(h.low (by have:=zd a;omega) (fun e=>by have:=b k e;omega) (zd a)).trans a⟩
theorem zcL(h:xI w s c tv lb gb Gl L)(hc:c.ok)(hL:∀p∈L,inR c p.1)(bF:L.length<=2000):
  Calls prog 172 #[(O s)] w fun e w'=>∃ob Bl,e=.returned (.map (G ob))/\xi jA w' ob Bl/\(∀x,x∈zk Bl↔∃k,k∈zn L/\(stL L k).st=2/\x∈yw c k)/\w.1.size<=ob/\R w.1.size w w':=by
 have bw:=h.lt;obtain⟨y0,y1,y2,au,yz⟩:=zmI w (.cells #[(O s)] 90) (.map #[] 0) (.cells #[.map (G (w.1.size+1))] 153);obtain⟨-,-,-,-,-,-,-,c7,-⟩:=h.cells;have ap:=fun W=>ze (JL lb W);have ar:=fun gf bC W=>ze (Vf gf bC 175 #[(O s)] #[] W);obtain⟨p0,-⟩:=zc y0;have x7:=(au.cell (p:=(U s 7)) bw).trans c7;have ax:w.1.size<(((w.alloc (.cells #[(O s)] 90)).alloc (.map #[] 0)).alloc (.cells #[.map (G (w.1.size+1))] 153)).1.size:=by rw[yz];omega
 have az:s<(((w.alloc (.cells #[(O s)] 90)).alloc (.map #[] 0)).alloc (.cells #[.map (G (w.1.size+1))] 153)).1.size:=by rw[yz];omega
 have H:=ze h;have Y0:=ze y0;have Y1:=ze y1;have Y2:=ze y2;have YZ:=ze yz;have b0:=ze au;have HC:=ze hc;have HL:=ze hL;clear h y0 y1 y2 yz au hc hL c7;refine(callsIn_wide (n:=7)).1 ?_;refine callsIn_of_wp_marks func172 rfl trivial ?_ rfl;simp only[ntmps172,sZz,Nat.reduceAdd,Nat.reduceSub];refine wpIn_wide.2 ?_;have bO:= @run_makeMap prog;go_wp2_with fail;generalize(((w.alloc (.cells #[(O s)] 90)).alloc (.map #[] 0)).alloc (.cells #[.map (G (w.1.size+1))] 153))=X at*;go_region_held3 (fun w'=>w'.cell? (U w.1.size 0)=G (O s)/\w'.cell? (U s 7)=G (.map (G lb))) (go_keep) (first
  |(go_at_call 173;(first|refine(ud (ap X)).mono ?_|refine(ud (ap X.drew)).mono ?_);rintro e b ⟨rfl,ag⟩;have P:R X.1.size X b:=(by rw[ag];first|exact(Q _ _).alloc (E _) _|exact(Q X.1.size X).drew.alloc (E _) _);have aU:b.1.size=X.1.size+1:=(by rw[ag];exact zM _ _);have aN:b.1[X.1.size]?=G (.cells #[.map (G lb)] 152 (0,0)):=(by rw[ag];exact zq _ _);have p1:=(P.cell (p:=(U w.1.size 0)) ax).trans p0;have aY:=(P.cell (p:=(U s 7)) az).trans x7;have al:=T ax P.size;have am:=T az P.size;have ad:=ze P;have bp:=ze aU;have bd:=ze aN;clear ag P aU aN)
  |(go_at_call 124;(first|refine(ud (ar _ _ b)).mono ?_|refine(ud (ar _ _ b.drew)).mono ?_);rintro e a ⟨rfl,aL⟩;have ac:a.1[b.1.size]?=G (.cells #[.func (.func 233) #[] #[(O X.1.size)]] 199 (0,0))/\a.1[b.1.size+1]?=G (.cells #[.func (.func 175) #[(O s)] #[]] 206 (0,0))/\R b.1.size b a/\a.1.size=b.1.size+2:=(by rw[aL];first|exact box2 b _ _|exact(by obtain⟨a1,a2,a3,a4⟩:=box2 b.drew (.cells #[.func (.func 233) #[] #[(O X.1.size)]] 199) (.cells #[.func (.func 175) #[(O s)] #[]] 206);exact⟨a1,a2,⟨a3.os,a3.tape,a3.output,a3.size,a3.block⟩,a4⟩));obtain⟨av,aM,ah,aV⟩:=ac;have p2:=(ah.cell (p:=(U w.1.size 0)) al).trans p1;have bD:=(ah.cell (p:=(U s 7)) am).trans aY;have bf:=ze av;have b8:=ze aM;have ae:=ze ah;have bq:=ze aV;clear aL av aM ah aV))
 all_goals
  go_wp2_with fail
  have e0:X.1.size=w.1.size+3:=ud YZ
  have e1:b.1.size=w.1.size+4:=by rw[ud bp,e0]
  have e2:a.1.size=w.1.size+6:=by rw[ud bq,e1]
  have j:R X.1.size X a:=(ud ad).trans ((ud ae).mono (ud ad).size)
  have ac:R w.1.size w a:=(ud b0).trans (j.mono (by omega))
  have f:=(ud H).later ac
  have ai:=(ud H).foot_lt
  have aK:=(j.block _ (by omega)).trans (ud Y0)
  have aI:=(j.block _ (by omega)).trans (ud Y1)
  have aJ:=(j.block _ (by omega)).trans (ud Y2)
  have aQ:=((ud ae).block _ (by omega)).trans (ud bd)
  have a5:xi jA a (w.1.size+1) []:=⟨#[],0,aI,⟨rfl,by simp,by simp,by simp,by simp[zk],by simp⟩⟩
  have a8:=zdd (fun x:RSg c=>x.1) (zgl c) (ex:=fun k=>k=w.1.size+1) (n:=w.1.size+6) X.1.size lb L (fun p hp=>vi (ud HL p hp)) a (by have:=ai lb (.inr (.inr (.inl rfl)));omega) (by omega) (by rw[xR aQ];rfl) (qK.1 f.live)
  have a9:=ZK (fun x:RSg c=>x.1) 233 #[(O X.1.size)] zcU 175 #[(O s)] #[] Yf (fun x=>(stL L x.1).st==2) b.1.size (b.1.size+1) a (by omega) ⟨by omega,by omega⟩ ⟨by omega,by omega⟩ (ud bf) (ud b8)
   (fun x W ⟨m,S⟩=>ZU (f.kx S (fun k hh=>by have:=ai k hh;constructor<;>omega)) x.1 x.2.1) a8
  have bn:=ze a9
  have bI:=ze e0
  have bJ:=ze e1
  have i:=ze e2
  have aE:=ze f
  have bl:=ze aK
  have aB:=ze aJ
  have bg:=ze a5
  have af:=ze ai
  have bo:=ze ac
  have b9:=fun(x:RSg c) W=>ze (VR s x.1 W)
  clear a8 a9 e0 e1 e2 f aK aJ aI a5 ai ac j aQ p2 bD p1 aY p0 x7 ax az al am ap ar
  refine(wpIn_wide (n:=7)).1 ?_
  refine yg (F:=Fence.wide) (n:=7) rfl (by omega) (gf:=194) (lb:=#[(O b.1.size),(O (b.1.size+1))]) rfl trivial Ve (ud bn (a.1.size+2) (by omega)) (E _) (fun h k=>h.trans k) (fun W o o' h hc hw=>KX.putObj o' (by have:=ud i;omega) (by omega) h hw) (Q _ _) (fun _=>rfl)
   (fun u W=>(∃Bl,xi jA W (w.1.size+1) Bl/\(∀x,x∈zk Bl↔∃k∈u,x∈yw c k.1)/\Bl.length<=4*u.length)/\KX (fun k=>k=w.1.size+1) (w.1.size+6) (a.1.size+2) a W)
   (fun _ _ _=>False)
   (fun s A B row hs hg hr=>⟨by obtain⟨Bl,N,b2⟩:=hs.1;exact⟨Bl,N.same (hg.block _ N.lt (fun e=>by have:=(hr _ e.symm).1;have:=ud i;omega)),b2⟩,KX.own (β:=Unit) (q:=a.1.size) (E _) () A B row hs.2 hg hr⟩)
   (fun _ _ _ _ _ hs _ _=>hs)
   ⟨⟨[],ud bg,fun x=>by simp[zk],by simp⟩,KX.refl _ _ _ _⟩
   (fun x a' W=>∃Bx,a.1.size<=Bx/\W.1[Bx]?=G (.cells #[I x.1.t,I x.1.sr,I x.1.wn] 146 (0,0))/\a'={tmps:=#[(O s),(O w.1.size),.map none,(O (w.1.size+1+1)),(O Bx),undef,.map (G (w.1.size+1)),(O s),(O s),.pointer (G (U s 7)),.map (G lb),.func (.func 233) #[] #[(O X.1.size)],(O s),.func (.func 175) #[(O s)] #[],.func (.func 194) #[] #[(O b.1.size),(O (b.1.size+1))],.agg #[I x.1.t,I x.1.sr,I x.1.wn],undef,undef,undef,undef,undef,undef,undef,undef],defers:=[]})
   (fun x a' s A B row hs hg hr=>by
    obtain⟨Bx,h1,h2,h3⟩:=hs;exact⟨Bx,h1,zv h2 hg (fun r e=>(hr r e).2),h3⟩) ?assign ?body ?done ?stop
  case assign=>
   rintro l u x W K ⟨⟨Bl,N,b2⟩,i2⟩ hK;have HK:=ze hK;have aW:=i2.kept.size;clear hK;gi_wp2;have d:=(Q W.1.size W).alloc (E _) (.cells #[I x.1.t,I x.1.sr,I x.1.wn] 146);refine ud HK _ _ (zo d) (KX.of_below d) ⟨⟨Bl,N.later d,b2⟩,i2.trans (KX.of_below d)⟩ ⟨W.1.size,aW,zq _ _,rfl⟩
  case body=>
   rintro l u x a' W hl ⟨r,hr⟩ ⟨⟨Bl,N,b2,b3⟩,i2⟩ ⟨Bx,aH,hx,rfl⟩ bN;have aW:=i2.kept.size;have e2:a.1.size=w.1.size+6:=ud i;have ay:=qC i2 (ud bl) (by omega) (by omega);have Y:=qC i2 (ud aB) (by omega) (by omega);have aa:=(ud aE).kx i2 (fun k hh=>by have:=ud af k hh;constructor<;>omega);obtain⟨sc,-⟩:=zc ay;obtain⟨bz,bA,bB,-⟩:=zc hx;have bL:=zd hx;have bP:=zd ay;obtain⟨v0,v1,vb,vz⟩:=box2 W (.cells #[(O s)] 90) (.cells #[I x.1.t,I x.1.sr,I x.1.wn] 146);have bv:=zd hr;have aC:=ze ((vb.block l bv).trans hr);have aF:=ze v0;have aG:=ze v1;have J:=ze vb;have a0:=ze vz;have bj:=ze Y;have aD:=ze aa;have bb:=ze i2;have b5:=ze N;have b4:=ze b2;have b6:=ze b3;have ba:=b9 x W;have bM:u.length<2000:=(by omega);have bE:=aH;clear v0 v1 vb vz ay Y aa i2 N b2 b3 hx hr e2 aH;gi_wp2_with (first|(refine⟨trivial,?_⟩;gi_at_call 178;refine(CallsIn.inRound l (callsIn_wide.2 (ud ba))).mono ?_;rintro e V ⟨rfl,hV⟩;rw[<-hV]at aC aF aG J a0;clear hV)|gi_in);have e2:a.1.size=w.1.size+6:=ud i;have vz:V.1.size=W.1.size+2:=ud a0;have ab:=(ud aD).later (ud J);have a6:=(ud b5).later (ud J);have aS:=((ud J).block _ (by omega)).trans (ud bj);have a7:=zeq (ex:=fun k=>k=w.1.size+1) (n:=V.1.size) W.1.size (W.1.size+1) s x.1 c (ud HC) tv lb gb x.2.2.1 x.2.2.2.1 x.2.2.2.2 x.2.1.2.1 V (E _) ⟨ud aF,ud aG,ab.hd⟩ ⟨by omega,by omega⟩ ⟨by omega,by omega⟩ ⟨by have:=ud af s (.inl rfl);omega,by have:=ud af s (.inl rfl);omega⟩ (fun g hg=>by have:=ud af g (.inr (.inl hg));constructor<;>omega);have bm:=ze a7;have bi:=ze a6;have bk:=ze aS;clear a7 ab a6 aS vz e2 sc bz bA bB;refine zlK (F:=Fence.wide.inRound l) (n:=5) (l₀:=l) (r₀:=r) rfl (ud aC) (by omega) (gf:=235) (lb:=#[(O W.1.size),(O (W.1.size+1))]) rfl trivial Kh (((ud bm (V.1.size+1) (by omega)).deep (n':=4)).inRound l) (E _) (fun h k=>h.trans k) (fun W o o' h hc hw=>KX.putObj o' (E _) (by omega) h hw) (Q _ _) (fun _=>rfl)
    (fun v M=>(∃C,xi jA M (w.1.size+1) C/\(∀y,y∈zk C↔(∃k∈u,y∈yw c k.1)\/y∈v.map (fun z:WSg=>z.1))/\C.length<=4*u.length+v.length)/\KX (fun k=>k=w.1.size+1) V.1.size (V.1.size+1) V M)
    (fun _ _ _=>False)
    (fun s A B row hs hg hr=>⟨by obtain⟨Bl,N,b2⟩:=hs.1;exact⟨Bl,N.same (hg.block _ N.lt (fun e=>by have:=(hr _ e.symm).1;have:=ud i;have:=ud a0;omega)),b2⟩,KX.own (β:=Unit) (q:=V.1.size) (E _) () A B row hs.2 hg hr⟩)
    (fun _ _ _ _ _ hs _ _=>hs)
    ⟨⟨Bl,ud bi,fun y=>by rw[ud b4 y];simp,by simpa using ud b6⟩,KX.refl _ _ _ _⟩
    (fun y a' M=>∃By,V.1.size<=By/\M.1[By]?=G (.cells #[I y.1.t,I y.1.sr,I y.1.wn] 146 (0,0))/\a'={tmps:=#[(O s),(O w.1.size),.map none,(O (w.1.size+1+1)),(O Bx),(O By),.map (G (w.1.size+1)),(O s),(O s),.pointer (G (U s 7)),.map (G lb),.func (.func 233) #[] #[(O X.1.size)],(O s),.func (.func 175) #[(O s)] #[],.func (.func 194) #[] #[(O b.1.size),(O (b.1.size+1))],.agg #[I x.1.t,I x.1.sr,I x.1.wn],(O s),.agg #[I x.1.t,I x.1.sr,I x.1.wn],.func (.func 235) #[] #[(O W.1.size),(O (W.1.size+1))],.agg #[I y.1.t,I y.1.sr,I y.1.wn],undef,undef,undef,undef],defers:=[]})
    (fun y a' s A B row hs hg hr=>by
     obtain⟨By,h1,h2,h3⟩:=hs;exact⟨By,h1,zv h2 hg (fun r e=>(hr r e).2),h3⟩) ?assign2 ?body2 ?done2 ?stop2
   case assign2=>
    rintro l2 v y M K ⟨⟨C,d1,d2⟩,j2⟩ hK;have HK:=ze hK;have aX:=j2.kept.size;clear hK;gi_wp2;have d:=(Q M.1.size M).alloc (E _) (.cells #[I y.1.t,I y.1.sr,I y.1.wn] 146);refine ud HK _ _ (zo d) (KX.of_below d) ⟨⟨C,d1.later d,d2⟩,j2.trans (KX.of_below d)⟩ ⟨M.1.size,aX,zq _ _,rfl⟩
   case body2=>
    rintro l2 v y a' M av _ ⟨⟨C,d1,d2,d3⟩,j2⟩ ⟨By,bK,hy,rfl⟩ bG;have bs:=(ud HC).n4;have e2:a.1.size=w.1.size+6:=ud i;have vz:V.1.size=W.1.size+2:=ud a0;have aw:=qC j2 (ud bk) (by omega) (by omega);obtain⟨oc,-⟩:=zc aw;obtain⟨bR,bS,bT,-⟩:=zc hy;have bQ:=zd hy;have bt:=zd aw;obtain⟨o,bH,aR,aO,ho⟩:=zpR d1 (by simp only[maxLen];omega) y.2;have aT:w.1.size+1<V.1.size:=(by omega);have bh:=ze aR;have aq:=ze aO;have bc:=ze j2;have an:=ze d2;have ao:=ze d3;clear aw aR aO j2 d1 d2 d3 hy vz e2;gi_wp2;refine⟨Xw (ud aq) aT,ZS (ud aq) (by omega),⟨_,ud bh,fun z=>?_,?_⟩,(ud bc).trans (ZS (ud aq) (by omega))⟩
    ·rw[zZ,ud an z,List.map_append,List.mem_append];simp[or_assoc]
    ·rw[vB];have:=ud ao;simp only[List.length_append,List.length_cons,List.length_nil];split<;>omega
   case done2=>
    rintro xs M hS ⟨⟨C,d1,d2,d3⟩,j2⟩;subst hS;have bs:=(ud HC).n4;have bx:=zbs c x.1;have e2:a.1.size=w.1.size+6:=ud i;have vz:V.1.size=W.1.size+2:=ud a0;have aP:KX (fun k=>k=w.1.size+1) (w.1.size+6) (a.1.size+2) V M:=ziw j2 (by omega) (E _) (fun k e=>by omega);have aj:KX (fun k=>k=w.1.size+1) (w.1.size+6) a.1.size V M:=ziw j2 (by omega) (E _) (fun k e=>by omega);have aA:=ze aP;have be:=ze ((zo (B:=a.1.size) (ud J)).trans (aj.from (E _)));have b7:=ze d1;have an:=ze d2;have ao:=ze d3;clear aP aj d1 d2 d3 j2 vz e2;gi_wp2;refine⟨ud be,(KX.of_below (ud J)).trans (ud aA),⟨_,ud b7,fun z=>?_,?_⟩,(ud bb).trans ((KX.of_below (ud J)).trans (ud aA))⟩
    ·rw[ud an z];have:=jB (ud HC) x.2 z;unfold kO at this;rw[this];constructor
     ·rintro(⟨k,S,hz⟩|hz)
      ·exact⟨k,List.mem_append_left _ S,hz⟩
      ·exact⟨x,by simp,hz⟩
     ·rintro⟨k,S,hz⟩;rcases List.mem_append.1 S with S|S
      ·exact .inl ⟨k,S,hz⟩
      ·simp at S;subst S;exact .inr hz
    ·have:=ud ao;unfold kO at bx;simp only[List.length_append,List.length_cons,List.length_nil];omega
   case stop2=>
    rintro cc v M _ hh;exact hh.elim
  case done=>
   rintro D xs W hD ⟨zs,⟨ps,hp,rfl⟩,rfl⟩ ⟨⟨Bl,N,b2,b3⟩,i2⟩ hK;have e2:a.1.size=w.1.size+6:=ud i;have Y:=qC i2 (ud aB) (by omega) (by omega);obtain⟨oc,-⟩:=zc Y;have bt:=zd Y;have br:D≠w.1.size+1:=(by omega);have ad:=ze (xi.same N (World.putObj_heap_other (o:=.deferred none) (w:=W) (fun e=>br e.symm)));have ae:=ze b2;have aZ:Hid (R w.1.size w (W.putObj D (.deferred none))):=by
    have S:R w.1.size a W:=⟨i2.kept.os,i2.kept.tape,i2.kept.output,i2.kept.size,fun k S=>i2.low (by omega) (by omega) (by omega)⟩;exact xE ((ud bo).trans S) (E _) (by omega) hK _
   clear Y i2 N b2 b3 e2;gi_wp2;go_wp2_with fail;refine⟨by simp,.inl ⟨_,_,rfl,run_takeDeferred hK,?_⟩⟩;refine⟨_,results_tmp rfl _ _ _,w.1.size+1,Bl,rfl,ud ad,fun z=>?_,Nat.le_succ _,ud aZ⟩;rw[ud ae z];have ak:∀k:Sg,(∃q∈(ps.map (fun p:Sg×SV=>zgl c p.1)).filter (fun q=>(stL L q.1).st==2),q.1=k)↔k∈zn L/\(stL L k).st=2:=fun k=>by
    constructor
    ·rintro⟨q,hq,rfl⟩;obtain⟨h1,h2⟩:=List.mem_filter.1 hq;obtain⟨p,bu,rfl⟩:=List.mem_map.1 h1;have Z:=hp.mem_iff.1 bu;rw[vi (ud HL p Z)]at h2 ⊢;exact⟨List.mem_map.2 ⟨p,Z,rfl⟩,by simpa using h2⟩
    ·rintro⟨h1,h2⟩;obtain⟨p,Z,rfl⟩:=List.mem_map.1 (show k∈L.map (·.1)from h1);refine⟨zgl c p.1,List.mem_filter.2 ⟨List.mem_map.2 ⟨p,hp.mem_iff.2 Z,rfl⟩,?_⟩,vi (ud HL p Z)⟩;rw[vi (ud HL p Z)];simpa using h2
   constructor
   ·rintro⟨q,hq,hz⟩;obtain⟨a1,a2⟩:=(ak q.1).1 ⟨q,hq,rfl⟩;exact⟨q.1,a1,a2,hz⟩
   ·rintro⟨k,a1,a2,hz⟩;obtain⟨q,hq,rfl⟩:=(ak k).2 ⟨a1,a2⟩;exact⟨q,hq,hz⟩
  case stop=>
   rintro D c u W _ _ h _;exact h.elim
theorem zgt:∀args w,(callFunc 174 args).run prog w=.ok (.enter 174 args) w:=enters_of func174 (by kernel_rfl) rfl
theorem zgo:∀args w,(callFunc 176 args).run prog w=.ok (.enter 176 args) w:=enters_of func176 (by kernel_rfl) rfl
theorem zcj{α:Type}{F:Fence}{lb:Array za}{encs:α->Array za}{S S' Sp:List α->Prop}(h:Yi F n P g lb encs Kp S Sp N m w)(r:∀xs,S xs->S' xs):Yi F n P g lb encs Kp S' Sp N m w:=
 fun l J d W o q k c p f=>(h l J d W o q k c p f).mono fun e V ⟨i,j⟩=>⟨i,j.imp (fun⟨xs,a,b⟩=>⟨xs,r xs a,b⟩) id⟩
theorem vE(h:xI w s c tv lb gb Gl L)(hc:c.ok)(hL:∀p∈L,inR c p.1)(now:Int)(j:0<=now/\now<=100000):
  Calls prog 114 #[(O s),I now] w fun e w'=>∃Bl Bh,e=.returned (.func (.func 194) #[] #[(O Bl),(O Bh)])/\R w.1.size w w'/\
   ∀ex:Nat->Prop,(∀k,ex k->k<w.1.size/\¬Z0 s tv lb gb k)->jx ex w'.1.size prog 194 #[(O Bl),(O Bh)] (fun x:RSg c=>#[.agg #[I x.1.t,I x.1.sr,I x.1.wn]]) (fun ys=>∃ps:LV,ps.Perm L/\ys=(ps.map (fun p:Sg×SV=>zgl c p.1)).filter (fun x=>yT c L now x.1)) L.length w':=by
 have Y:=h.lt;obtain⟨Z,y1,o,A⟩:=box2 w (.cells #[(O s)] 90) (.cells #[I now] 3);obtain⟨-,-,-,-,-,-,-,c7,-⟩:=h.cells;have C:=ze (JL lb ((w.alloc (.cells #[(O s)] 90)).alloc (.cells #[I now] 3)));obtain⟨p0,-⟩:=zc Z;have x7:=(o.cell (p:=(U s 7)) Y).trans c7;have a0:w.1.size<((w.alloc (.cells #[(O s)] 90)).alloc (.cells #[I now] 3)).1.size:=by rw[A];omega
 have a5:s<((w.alloc (.cells #[(O s)] 90)).alloc (.cells #[I now] 3)).1.size:=by rw[A];omega
 have H:=ze h;have Y0:=ze Z;have Y1:=ze y1;have YZ:=ze A;have B:=ze o;have HC:=ze hc;have HL:=ze hL;have F:=ze j;clear h Z y1 A o hc hL c7 j;go_enter func114,ntmps114;go_wp2_with fail;generalize((w.alloc (.cells #[(O s)] 90)).alloc (.cells #[I now] 3))=X at*;refine(ud C).mono ?_;rintro e b ⟨rfl,g⟩;have v:R X.1.size X b:=by rw[g];exact(Q _ _).alloc (E _) _
 have K:Hid (b.1.size=X.1.size+1):=by show b.1.size=_;rw[g];exact zM _ _
 have D:Hid (b.1[X.1.size]?=G (.cells #[.map (G lb)] 152 (0,0))):=by show b.1[X.1.size]?=_;rw[g];exact zq _ _
 have r:=ze v;have J:=ze (Vf 233 #[(O X.1.size)] 176 #[] #[(O w.1.size),(O (w.1.size+1))] b);clear g v p0 x7;go_wp2_with fail;refine(ud J).mono ?_;rintro e i ⟨rfl,u⟩;obtain⟨a1,a2,a3,a4⟩:=box2 b (.cells #[.func (.func 233) #[] #[(O X.1.size)]] 199) (.cells #[.func (.func 176) #[] #[(O w.1.size),(O (w.1.size+1))]] 206);rw[<-u]at a1 a2 a3 a4;have A1:=ze a1;have A2:=ze a2;have A3:=ze a3;have A4:=ze a4;clear u a1 a2 a3 a4;go_wp2_with fail;go_ret;have e0:X.1.size=w.1.size+2:=ud YZ;have e1:b.1.size=X.1.size+1:=ud K;have e2:i.1.size=b.1.size+2:=ud A4;have d:R X.1.size X i:=(ud r).trans ((ud A3).mono (ud r).size);have z:R w.1.size w i:=(ud B).trans (d.mono (by omega));refine⟨b.1.size,b.1.size+1,rfl,z,fun ex y=>?_⟩;have l:=(ud H).later z;have M:=(ud H).foot_lt;have a:∀k,w.1.size<=k->¬ex k:=fun k q e=>by have:=(y k e).1;omega
 have f:∀k,Z0 s tv lb gb k->k<i.1.size/\¬ex k:=fun k q=>⟨by have:=M k q;omega,fun e=>(y k e).2 q⟩;have N:=((ud A3).block _ (by omega)).trans (ud D);have V:=(d.block _ (by omega)).trans (ud Y0);have P:=(d.block _ (by omega)).trans (ud Y1);have hW:=ZK (fun x:RSg c=>x.1) _ _ zcU _ #[] _ zgo (ex:=ex) (n:=i.1.size) (fun x=>yT c L now x.1) b.1.size (b.1.size+1) i (E _) ⟨by omega,a _ (by omega)⟩ ⟨by omega,a _ (by omega)⟩ (ud A1) (ud A2)
  (fun x W ⟨m,q⟩=>by
   have q0:=qC q V (by omega) (a _ (by omega));have q1:=qC q P (by omega) (a _ (by omega));exact Yq (l.kx q f) (ud HC) x.1 x.2.1 x.2.2.1 x.2.2.2.1 x.2.2.2.2 now (ud F) w.1.size (w.1.size+1) (by rw[xR q0];rfl) (by rw[xR q1];rfl) (zd q0) (zd q1))
  (zdd (fun x:RSg c=>x.1) (zgl c) (ex:=ex) (n:=i.1.size) X.1.size lb L (fun p S=>vi (ud HL p S)) i (f lb (.inr (.inr (.inl rfl)))).2 (by omega) (by rw[xR N];rfl) (qK.1 l.live))
 exact fun m hm=>zcj (hW m hm) (fun ys ⟨xs,⟨ps,S,e1⟩,e2⟩=>⟨ps,S,by rw[e2,e1]⟩)
theorem zcf(h:xI w s c tv lb gb Gl L)(hc:c.ok)(hL:∀p∈L,inR c p.1)(P:L.length<=2000)(now:Int)(v:0<=now/\now<=100000):
  Calls prog 112 #[(O s),I now] w fun e w'=>∃Bl Bh Bs,e=.returned (.func (.func 194) #[] #[(O Bl),(O Bh)])/\R w.1.size w w'/\(∀x,x∈zk Bs↔∃k,k∈zn L/\(stL L k).st=2/\x∈yw c k)/\
   ∀ex:Nat->Prop,(∀k,ex k->k<w.1.size/\¬Z0 s tv lb gb k)->jx ex w'.1.size prog 194 #[(O Bl),(O Bh)] (fun x:RSg c=>#[.agg #[I x.1.t,I x.1.sr,I x.1.wn]]) (fun ys=>∃ps:LV,ps.Perm L/\ys=(ps.map (fun p:Sg×SV=>zgl c p.1)).filter (fun x=>yU c Bs L now x.1)) L.length w':=by
 have an:=h.lt;obtain⟨y0,y1,r,yz⟩:=box2 w (.cells #[(O s)] 90) (.cells #[I now] 3);obtain⟨-,-,-,-,-,-,-,c7,-⟩:=h.cells;have a6:=ze (zcL (h.later r) hc hL P);obtain⟨p0,-⟩:=zc y0;have x7:=(r.cell (p:=(U s 7)) an).trans c7;have D:w.1.size<((w.alloc (.cells #[(O s)] 90)).alloc (.cells #[I now] 3)).1.size:=by rw[yz];omega
 have F:s<((w.alloc (.cells #[(O s)] 90)).alloc (.cells #[I now] 3)).1.size:=by rw[yz];omega
 have H:=ze h;have Y0:=ze y0;have Y1:=ze y1;have YZ:=ze yz;have a7:=ze r;have HC:=ze hc;have HL:=ze hL;have aa:=ze v;clear h y0 y1 yz r hc hL c7 v;go_enter func112,ntmps112;go_wp2_with fail;generalize((w.alloc (.cells #[(O s)] 90)).alloc (.cells #[I now] 3))=X at*;refine(ud a6).mono ?_;rintro e f ⟨ob,Bs,rfl,S,A,B,q⟩;have bb:=zq f (.cells #[.map (G ob)] 153);have hbb:R f.1.size f (f.alloc (.cells #[.map (G ob)] 153)):=(Q _ _).alloc (E _) _;have Y:=zM f (.cells #[.map (G ob)] 153);have a:=q.trans (hbb.mono q.size);have p1:=(a.cell (p:=(U w.1.size 0)) D).trans p0;have ao:=(a.cell (p:=(U s 7)) F).trans x7;have y:=S.later hbb;have aq:=T D a.size;have ar:=T F a.size;have a5:=ze bb;have ah:=ze Y;have a0:=ze a;have ab:=ze y;have ac:=ze A;have ad:=ze B;have af:=ze q.size;have a8:=ze (JL lb (f.alloc (.cells #[.map (G ob)] 153)));clear bb hbb Y a S y A B q p0 x7 D F;go_wp2_with fail;generalize(f.alloc (.cells #[.map (G ob)] 153))=Z at*;refine(ud a8).mono ?_;rintro e d ⟨rfl,o⟩;have M:R Z.1.size Z d:=by rw[o];exact(Q _ _).alloc (E _) _
 have ag:Hid (d.1.size=Z.1.size+1):=by show d.1.size=_;rw[o];exact zM _ _
 have a9:Hid (d.1[Z.1.size]?=G (.cells #[.map (G lb)] 152 (0,0))):=by show d.1[Z.1.size]?=_;rw[o];exact zq _ _
 have J:=ze M;have ae:=ze (Vf 233 #[(O Z.1.size)] 174 #[] #[(O f.1.size),(O w.1.size),(O (w.1.size+1))] d);clear o M p1 ao;go_wp2_with fail;refine(ud ae).mono ?_;rintro e l ⟨rfl,K⟩;obtain⟨a1,a2,a3,a4⟩:=box2 d (.cells #[.func (.func 233) #[] #[(O Z.1.size)]] 199) (.cells #[.func (.func 174) #[] #[(O f.1.size),(O w.1.size),(O (w.1.size+1))]] 206);rw[<-K]at a1 a2 a3 a4;have A1:=ze a1;have A2:=ze a2;have A3:=ze a3;have A4:=ze a4;clear K a1 a2 a3 a4;go_wp2_with fail;go_ret;have e0:X.1.size=w.1.size+2:=ud YZ;have ez:Z.1.size=f.1.size+1:=ud ah;have e1:d.1.size=Z.1.size+1:=ud ag;have eX:X.1.size<=f.1.size:=ud af;have eo:=ud ad;have e2:l.1.size=d.1.size+2:=ud A4;have i:R Z.1.size Z l:=(ud J).trans ((ud A3).mono (ud J).size);have g:R X.1.size X l:=(ud a0).trans (i.mono (by omega));have V:R w.1.size w l:=(ud a7).trans (g.mono (by omega));refine⟨d.1.size,d.1.size+1,Bs,rfl,V,ud ac,fun ex N=>?_⟩;have C:=(ud H).later V;have aj:=(ud H).foot_lt;have b:∀k,w.1.size<=k->¬ex k:=fun k u e=>by have:=(N k e).1;omega
 have j:∀k,Z0 s tv lb gb k->k<l.1.size/\¬ex k:=fun k u=>⟨by have:=aj k u;omega,fun e=>(N k e).2 u⟩;have ak:=((ud A3).block _ (by omega)).trans (ud a9);have z:=(ud ab).later i;have ai:=(i.block _ (by omega)).trans (ud a5);have ap:=z.lt;have am:=(g.block _ (by omega)).trans (ud Y0);have al:=(g.block _ (by omega)).trans (ud Y1);have hW:=ZK (fun x:RSg c=>x.1) _ _ zcU _ #[] _ zgt (ex:=ex) (n:=l.1.size) (fun x=>yU c Bs L now x.1) d.1.size (d.1.size+1) l (E _) ⟨by omega,b _ (by omega)⟩ ⟨by omega,b _ (by omega)⟩ (ud A1) (ud A2)
  (fun x W ⟨m,u⟩=>by
   have q0:=qC u am (by omega) (b _ (by omega));have q1:=qC u al (by omega) (b _ (by omega));have q2:=qC u ai (by omega) (b _ (by omega));exact zap (C.kx u j) (ud HC) (xi.kept z u.kept (fun e=>e.elim (b _ (by omega)) (by omega))) x.1 x.2.1 x.2.2.1 x.2.2.2.1 x.2.2.2.2 now (ud aa) f.1.size w.1.size (w.1.size+1) (by rw[xR q2];rfl) (by rw[xR q0];rfl) (by rw[xR q1];rfl) (zd q2) (zd q0) (zd q1))
  (zdd (fun x:RSg c=>x.1) (zgl c) (ex:=ex) (n:=l.1.size) Z.1.size lb L (fun p hp=>vi (ud HL p hp)) l (j lb (.inr (.inr (.inl rfl)))).2 (by omega) (by rw[xR ak];rfl) (qK.1 C.live))
 exact fun m hm=>zcj (hW m hm) (fun ys ⟨xs,⟨ps,hp,e1⟩,e2⟩=>⟨ps,hp,by rw[e2,e1]⟩)
theorem jm(s:Sg)(w:z9):(method 518 195 (.agg #[I s.t,I s.sr,I s.wn]) "Kind").run prog w=.ok (334,.agg #[I s.t,I s.sr,I s.wn]) w:=by kernel_rfl
theorem jF(s:Sg)(w:z9):(method 518 195 (.agg #[I s.t,I s.sr,I s.wn]) "Segment").run prog w=.ok (335,.agg #[I s.t,I s.sr,I s.wn]) w:=by kernel_rfl
theorem JX(s:Sg)(w:z9):(method 518 195 (.agg #[I s.t,I s.sr,I s.wn]) "Due").run prog w=.ok (333,.agg #[I s.t,I s.sr,I s.wn]) w:=by kernel_rfl
theorem kind_Roll(s:Sg)(w:z9):Calls prog 334 #[.agg #[I s.t,I s.sr,I s.wn]] w (Rz w (I 1)):=by
 go_enter func334,ntmps334;go_wp2_with fail;go_ret;exact⟨rfl,(Q _ _).alloc (E _) _⟩
theorem segm_Roll(s:Sg)(w:z9):Calls prog 335 #[.agg #[I s.t,I s.sr,I s.wn]] w (Rz w (.agg #[I s.t,I s.sr,I s.wn])):=by
 obtain⟨c,b,a,d⟩:=box2 w (.cells #[I s.t,I s.sr,I s.wn] 195) (.cells #[I s.t,I s.sr,I s.wn] 146);go_enter func335,ntmps335;go_wp2_with fail;refine bodyPost_ret (v:=.agg #[I s.t,I s.sr,I s.wn]) (results_cell_row results335 _ _ (w.1.size+1) _ _ _ _ rfl b underlying146 rfl (by kernel_rfl)) rfl ?_;exact⟨rfl,a⟩
theorem keyOf_Roll(s:Sg)(w:z9):Calls prog 102 #[.iface 195 (.agg #[I s.t,I s.sr,I s.wn])] w (Rz w (.agg #[I 1,I s.t,I s.sr,I s.wn])):=by
 have b0:=zq w zcD;have m:=zM w zcD;have g:R w.1.size w (w.alloc zcD):=(Q _ _).alloc (E _) _;have p:=fun W=>ze (kind_Roll s W);have q:=fun W=>ze (segm_Roll s W);have B0:=ze b0;have n:=ze m;have h:=ze g;clear b0 m g;have x:=jm s;have y:=jF s;go_enter func102,ntmps102;go_wp2_with(first
  |(go_at_call 334;refine(ud (p _)).mono ?_;rintro e w1 ⟨rfl,a⟩;have c:=ze a;clear a)
  |(go_at_call 335;refine(ud (q _)).mono ?_;rintro e w2 ⟨rfl,b⟩;have d:w.1.size<(w.alloc zcD).1.size:=(by rw[ud n];omega);have f:=(b.block w.1.size (T d (ud c).size)).trans (((ud c).block w.1.size d).trans (ud B0));obtain⟨z,A,B,C,-⟩:=zc f;have D:=fun j=>zw f j;have u:=zd f;have o:=ze f;have k:=ze b;clear b f d))
 have r:=xD (i:=3) (xD (i:=2) (xD (i:=1) (xD (i:=0) (ud o) (I 1)) (I s.t)) (I s.sr)) (I s.wn);refine bodyPost_ret (v:=.agg #[I 1,I s.t,I s.sr,I s.wn]) (results_cell_row results102 _ _ w.1.size _ _ _ _ rfl r underlying162 rfl (by kernel_rfl)) rfl ?_;have l:=ud h;have a:=ud c;have b:=ud k;exact⟨rfl,(l.trans (a.mono l.size)).trans ((b.mono (zb l.size a.size)).trans (below4 (E _) _ _ _ _))⟩
theorem kt(s:Sg)(w:z9):(method 518 197 (.agg #[I s.t,I s.sr,I s.wn]) "Kind").run prog w=.ok (337,.agg #[I s.t,I s.sr,I s.wn]) w:=by kernel_rfl
theorem kS(s:Sg)(w:z9):(method 518 197 (.agg #[I s.t,I s.sr,I s.wn]) "Segment").run prog w=.ok (338,.agg #[I s.t,I s.sr,I s.wn]) w:=by kernel_rfl
theorem Yo(s:Sg)(w:z9):(method 518 197 (.agg #[I s.t,I s.sr,I s.wn]) "Due").run prog w=.ok (336,.agg #[I s.t,I s.sr,I s.wn]) w:=by kernel_rfl
theorem kind_Reclaim(s:Sg)(w:z9):Calls prog 337 #[.agg #[I s.t,I s.sr,I s.wn]] w (Rz w (I 2)):=by
 go_enter func337,ntmps337;go_wp2_with fail;go_ret;exact⟨rfl,(Q _ _).alloc (E _) _⟩
theorem segm_Reclaim(s:Sg)(w:z9):Calls prog 338 #[.agg #[I s.t,I s.sr,I s.wn]] w (Rz w (.agg #[I s.t,I s.sr,I s.wn])):=by
 obtain⟨c,b,a,d⟩:=box2 w (.cells #[I s.t,I s.sr,I s.wn] 197) (.cells #[I s.t,I s.sr,I s.wn] 146);go_enter func338,ntmps338;go_wp2_with fail;refine bodyPost_ret (v:=.agg #[I s.t,I s.sr,I s.wn]) (results_cell_row results338 _ _ (w.1.size+1) _ _ _ _ rfl b underlying146 rfl (by kernel_rfl)) rfl ?_;exact⟨rfl,a⟩
theorem keyOf_Reclaim(s:Sg)(w:z9):Calls prog 102 #[.iface 197 (.agg #[I s.t,I s.sr,I s.wn])] w (Rz w (.agg #[I 2,I s.t,I s.sr,I s.wn])):=by
 have b0:=zq w zcD;have m:=zM w zcD;have g:R w.1.size w (w.alloc zcD):=(Q _ _).alloc (E _) _;have p:=fun W=>ze (kind_Reclaim s W);have q:=fun W=>ze (segm_Reclaim s W);have B0:=ze b0;have n:=ze m;have h:=ze g;clear b0 m g;have x:=kt s;have y:=kS s;go_enter func102,ntmps102;go_wp2_with(first
  |(go_at_call 337;refine(ud (p _)).mono ?_;rintro e w1 ⟨rfl,a⟩;have c:=ze a;clear a)
  |(go_at_call 338;refine(ud (q _)).mono ?_;rintro e w2 ⟨rfl,b⟩;have d:w.1.size<(w.alloc zcD).1.size:=(by rw[ud n];omega);have f:=(b.block w.1.size (T d (ud c).size)).trans (((ud c).block w.1.size d).trans (ud B0));obtain⟨z,A,B,C,-⟩:=zc f;have D:=fun j=>zw f j;have u:=zd f;have o:=ze f;have k:=ze b;clear b f d))
 have r:=xD (i:=3) (xD (i:=2) (xD (i:=1) (xD (i:=0) (ud o) (I 2)) (I s.t)) (I s.sr)) (I s.wn);refine bodyPost_ret (v:=.agg #[I 2,I s.t,I s.sr,I s.wn]) (results_cell_row results102 _ _ w.1.size _ _ _ _ rfl r underlying162 rfl (by kernel_rfl)) rfl ?_;have l:=ud h;have a:=ud c;have b:=ud k;exact⟨rfl,(l.trans (a.mono l.size)).trans ((b.mono (zb l.size a.size)).trans (below4 (E _) _ _ _ _))⟩
end Go.Proofs.YtndhpgciopcncaaGreatDoor
