import Derived.Test.YtndhpgciopcncaaGreatDoorPSum1
import Derived.Test.YtndhpgciopcncaaGreatDoorPSum3
import Derived.Laws.ResultCell
import Derived.Deep.RegionHeld3
open Nat renaming le_refl → E
open Go.RowKit.Below renaming refl → Q
open Go renaming World → G
open Option renaming some → R
open Go.RowKit renaming Below → T
open Nat renaming lt_of_lt_of_le → z9
open Go renaming Value → za
open Nat renaming le_trans → zb
open Go.Value (int)
open Go.IntKind (i32)
set_option linter.unusedVariables false
set_option maxRecDepth 100000
set_option maxHeartbeats 8000000
open Go.Proofs.Tryz
namespace Go.Proofs.YtndhpgciopcncaaGreatDoor
open Go.ChangeMaps (setBlock)
open Go.RowKit Go.Maps Go.Shelf
theorem Yr{n m:Nat}{w W:G}(h:KX (fun _=>False) n m w W)(hn:w.1.size<=n):T w.1.size w W:=⟨h.kept.os,h.kept.tape,h.kept.output,h.kept.size,fun k a=>h.low (by omega) (fun e=>e) a⟩
theorem zoI(gf:Nat)(lb:Array za)(c:Nat)(a b:Array za)(w:G):
  Calls prog 151 #[.func (.func gf) #[] lb,.func (.func c) a b] w fun e w'=>e=.returned (.func (.func 225) #[] #[(O w.1.size),(O (w.1.size+1))])/\w'=((w.alloc (.cells #[.func (.func gf) #[] lb] 150)).alloc (.cells #[.func (.func c) a b] 158)):=by
 go_enter func151,ntmps151
 go_wp2_with fail
 go_ret
 exact⟨rfl,rfl⟩
theorem zoF:∀args w,(callFunc 225 args).run prog w=.ok (.enter 225 args) w:=enters_of func225 (by kernel_rfl) rfl
theorem zoc(x:SX)(w:G):Calls prog 152 #[.agg (xZz x)] w (Rz w (I 1)):=by
 have a:T w.1.size w (w.alloc (.cells (xZz x) 148)):=(Q _ _).alloc (E _) _
 go_enter func152,ntmps152
 go_wp2_with fail
 go_ret
 first|exact⟨rfl,a⟩|exact⟨rfl,Q _ _⟩
theorem znp(gf:Nat)(lb:Array za)(r:∀args w,(callFunc gf args).run prog w=.ok (.enter gf args) w)(c:Nat)(a g:Array za)(s:∀args w,(callFunc c args).run prog w=.ok (.enter c args) w){N:Nat}{S:List SX->Prop}(p:SX->Bool)(w:G)
  (k:∀(x:SX) (W:G),T w.1.size w W->Calls prog c (a++#[.agg (xZz x)]++g) W fun e A=>e=.returned (.bool (p x))/\T W.1.size W A)
  (f:vZ (fun _=>False) w.1.size prog gf lb (fun x:SX=>#[.agg (xZz x)]) S N w) (B:∀xs,S xs->xs.length<=9223372036854775807):
  Calls prog 90 #[.func (.func gf) #[] lb,.func (.func c) a g] w fun e w'=>∃xs,S xs/\e=.returned (I (xs.filter p).length)/\T w.1.size w w':=by
 obtain⟨o,q,b,i⟩:=box2 w (.cells #[.func (.func gf) #[] lb] 150) (.cells #[.func (.func c) a g] 158)
 have u:vZ (fun _=>False) (w.1.size+2) prog 225 #[(O w.1.size),(O (w.1.size+1))] (fun x:SX=>#[.agg (xZz x)]) (fun v=>∃xs,S xs/\v=xs.filter p) N ((w.alloc (.cells #[.func (.func gf) #[] lb] 150)).alloc (.cells #[.func (.func c) a g] 158)):=
  zjS gf lb r c a g s p w.1.size (w.1.size+1) _ (by rw[i];omega) ⟨by omega,fun e=>e⟩ ⟨by omega,fun e=>e⟩ o q (fun x W ⟨m,C⟩=>k x W (b.trans ((Yr C (by rw[i];omega)).mono (by rw[i];omega)))) ((f.later b).lower (by omega))
 have y:=ze (zjy 225 _ zoF (fun _=>1) _ (by rw[i];omega) (fun x W _=>zoc x W) u)
 have z:=ze (zoI gf lb c a g w)
 have n:=ze b
 clear k f u o q b i r s
 go_enter func90,ntmps90
 go_wp2_with(first
  |(go_at_call 151;refine(ud z).mono ?_;rintro e D ⟨rfl,rfl⟩)
  |(go_at_call 87;refine(ud y).mono ?_;rintro e F ⟨v,⟨xs,t,rfl⟩,rfl,j⟩;have l:=ze j;have h:=ze t;clear j t))
 go_ret
 have d:=zb (yC p xs) (B xs (ud h))
 refine⟨xs,ud h,by(first|rw[jx _ d]|rw[jx _ (by rw[List.length_unattach];exact d),List.length_unattach]);rfl,(ud n).trans ((ud l).mono (ud n).size)⟩
theorem zoH(gf:Nat)(lb:Array za)(c:Nat)(a b:Array za)(w:G):
  Calls prog 154 #[.func (.func gf) #[] lb,.func (.func c) a b] w fun e w'=>e=.returned (.func (.func 226) #[] #[(O w.1.size),(O (w.1.size+1))])/\w'=((w.alloc (.cells #[.func (.func gf) #[] lb] 166)).alloc (.cells #[.func (.func c) a b] 172)):=by
 go_enter func154,ntmps154
 go_wp2_with fail
 go_ret
 exact⟨rfl,rfl⟩
theorem zoE:∀args w,(callFunc 226 args).run prog w=.ok (.enter 226 args) w:=enters_of func226 (by kernel_rfl) rfl
theorem zob(x:Lse)(w:G):Calls prog 155 #[.agg (lZz x)] w (Rz w (I 1)):=by
 have a:T w.1.size w (w.alloc (.cells (lZz x) 164)):=(Q _ _).alloc (E _) _
 go_enter func155,ntmps155
 go_wp2_with fail
 go_ret
 first|exact⟨rfl,a⟩|exact⟨rfl,Q _ _⟩
theorem zhv(gf:Nat)(lb:Array za)(r:∀args w,(callFunc gf args).run prog w=.ok (.enter gf args) w)(c:Nat)(a g:Array za)(s:∀args w,(callFunc c args).run prog w=.ok (.enter c args) w){N:Nat}{S:List Lse->Prop}(p:Lse->Bool)(w:G)
  (k:∀(x:Lse) (W:G),T w.1.size w W->Calls prog c (a++#[.agg (lZz x)]++g) W fun e A=>e=.returned (.bool (p x))/\T W.1.size W A)
  (f:vZ (fun _=>False) w.1.size prog gf lb (fun x:Lse=>#[.agg (lZz x)]) S N w) (B:∀xs,S xs->xs.length<=9223372036854775807):
  Calls prog 93 #[.func (.func gf) #[] lb,.func (.func c) a g] w fun e w'=>∃xs,S xs/\e=.returned (I (xs.filter p).length)/\T w.1.size w w':=by
 obtain⟨o,q,b,i⟩:=box2 w (.cells #[.func (.func gf) #[] lb] 166) (.cells #[.func (.func c) a g] 172)
 have u:vZ (fun _=>False) (w.1.size+2) prog 226 #[(O w.1.size),(O (w.1.size+1))] (fun x:Lse=>#[.agg (lZz x)]) (fun v=>∃xs,S xs/\v=xs.filter p) N ((w.alloc (.cells #[.func (.func gf) #[] lb] 166)).alloc (.cells #[.func (.func c) a g] 172)):=
  zjR gf lb r c a g s p w.1.size (w.1.size+1) _ (by rw[i];omega) ⟨by omega,fun e=>e⟩ ⟨by omega,fun e=>e⟩ o q (fun x W ⟨m,C⟩=>k x W (b.trans ((Yr C (by rw[i];omega)).mono (by rw[i];omega)))) ((f.later b).lower (by omega))
 have y:=ze (zjx 226 _ zoE (fun _=>1) _ (by rw[i];omega) (fun x W _=>zob x W) u)
 have z:=ze (zoH gf lb c a g w)
 have n:=ze b
 clear k f u o q b i r s
 go_enter func93,ntmps93
 go_wp2_with(first
  |(go_at_call 154;refine(ud z).mono ?_;rintro e D ⟨rfl,rfl⟩)
  |(go_at_call 153;refine(ud y).mono ?_;rintro e F ⟨v,⟨xs,t,rfl⟩,rfl,j⟩;have l:=ze j;have h:=ze t;clear j t))
 go_ret
 have d:=zb (yC p xs) (B xs (ud h))
 refine⟨xs,ud h,by(first|rw[jx _ d]|rw[jx _ (by rw[List.length_unattach];exact d),List.length_unattach]);rfl,(ud n).trans ((ud l).mono (ud n).size)⟩
theorem KI(gf:Nat)(lb:Array za)(c:Nat)(a b:Array za)(w:G):
  Calls prog 124 #[.func (.func gf) #[] lb,.func (.func c) a b] w fun e w'=>e=.returned (.func (.func 194) #[] #[(O w.1.size),(O (w.1.size+1))])/\w'=((w.alloc (.cells #[.func (.func gf) #[] lb] 199)).alloc (.cells #[.func (.func c) a b] 206)):=by
 go_enter func124,ntmps124
 go_wp2_with fail
 go_ret
 exact⟨rfl,rfl⟩
theorem KH:∀args w,(callFunc 194 args).run prog w=.ok (.enter 194 args) w:=enters_of func194 (by kernel_rfl) rfl
theorem zoa{α:Type}(a:α->Sg)(x:α)(w:G):Calls prog 182 #[.agg #[I (a x).t,I (a x).sr,I (a x).wn]] w (Rz w (I 1)):=by
 have b:T w.1.size w (w.alloc (.cells #[I (a x).t,I (a x).sr,I (a x).wn] 146)):=(Q _ _).alloc (E _) _
 go_enter func182,ntmps182
 go_wp2_with fail
 go_ret
 first|exact⟨rfl,b⟩|exact⟨rfl,Q _ _⟩
theorem zhu{α:Type}(b:α->Sg)(gf:Nat)(lb:Array za)(s:∀args w,(callFunc gf args).run prog w=.ok (.enter gf args) w)(d:Nat)(a h:Array za)(u:∀args w,(callFunc d args).run prog w=.ok (.enter d args) w){N:Nat}{S:List α->Prop}(p:α->Bool)(w:G)
  (l:∀(x:α) (W:G),T w.1.size w W->Calls prog d (a++#[.agg #[I (b x).t,I (b x).sr,I (b x).wn]]++h) W fun e C=>e=.returned (.bool (p x))/\T W.1.size W C)
  (g:vZ (fun _=>False) w.1.size prog gf lb (fun x:α=>#[.agg #[I (b x).t,I (b x).sr,I (b x).wn]]) S N w) (D:∀xs,S xs->xs.length<=9223372036854775807):
  Calls prog 119 #[.func (.func gf) #[] lb,.func (.func d) a h] w fun e w'=>∃xs,S xs/\e=.returned (I (xs.filter p).length)/\T w.1.size w w':=by
 obtain⟨q,r,c,j⟩:=box2 w (.cells #[.func (.func gf) #[] lb] 199) (.cells #[.func (.func d) a h] 206)
 have y:vZ (fun _=>False) (w.1.size+2) prog 194 #[(O w.1.size),(O (w.1.size+1))] (fun x:α=>#[.agg #[I (b x).t,I (b x).sr,I (b x).wn]]) (fun z=>∃xs,S xs/\z=xs.filter p) N ((w.alloc (.cells #[.func (.func gf) #[] lb] 199)).alloc (.cells #[.func (.func d) a h] 206)):=
  Zq b gf lb s d a h u p w.1.size (w.1.size+1) _ (by rw[j];omega) ⟨by omega,fun e=>e⟩ ⟨by omega,fun e=>e⟩ q r (fun x W ⟨m,F⟩=>l x W (c.trans ((Yr F (by rw[j];omega)).mono (by rw[j];omega)))) ((g.later c).lower (by omega))
 have A:=ze (zjw b 194 _ KH (fun _=>1) _ (by rw[j];omega) (fun x W _=>zoa b x W) y)
 have B:=ze (KI gf lb d a h w)
 have o:=ze c
 clear l g y q r c j s u
 go_enter func119,ntmps119
 go_wp2_with(first
  |(go_at_call 124;refine(ud B).mono ?_;rintro e H ⟨rfl,rfl⟩)
  |(go_at_call 181;refine(ud A).mono ?_;rintro e J ⟨z,⟨xs,v,rfl⟩,rfl,k⟩;have n:=ze k;have i:=ze v;clear k v))
 go_ret
 have f:=zb (yC p xs) (D xs (ud i))
 refine⟨xs,ud i,by(first|rw[jx _ f]|rw[jx _ (by rw[List.length_unattach];exact f),List.length_unattach]);rfl,(ud o).trans ((ud n).mono (ud o).size)⟩
structure xE(w:G)(s:Nat)(c:Cf)(tv:za)(lb gb:Nat)(Gl:List (Sg×Unit))(L:LV):Prop where
 head:w.1[s]?=R (.cells #[I c.s,I c.le,I c.la,I c.wi,I c.ke,I c.qu,tv,.map (R lb),.map (R gb)] 155 (0,0))
 trow:w.ownsRow 0 80 3 tv c.n (ZN c.n c.F c.W c.K)
 live:yA w lb L
 gone:xe je w gb Gl
 apart:gb≠lb
structure kY(w:G)(s:Nat)(c:Cf)(tv:za)(lb gb:Nat):Prop where
 head:w.1[s]?=R (.cells #[I c.s,I c.le,I c.la,I c.wi,I c.ke,I c.qu,tv,.map (R lb),.map (R gb)] 155 (0,0))
 trow:w.ownsRow 0 80 3 tv c.n (ZN c.n c.F c.W c.K)
theorem xE.hd{w:G}{s:Nat}{c:Cf}{tv:za}{lb gb:Nat}{Gl:List (Sg×Unit)}{L:LV}(h:xE w s c tv lb gb Gl L):kY w s c tv lb gb:=⟨h.head,h.trow⟩
theorem kY.lt{w:G}{s:Nat}{c:Cf}{tv:za}{lb gb:Nat}(h:kY w s c tv lb gb):s<w.1.size:=zd h.head
theorem kY.kept{f:Nat->Prop}{w w':G}{s:Nat}{c:Cf}{tv:za}{lb gb:Nat}(h:kY w s c tv lb gb)(a:zh f w w')(b:¬f s)(d:∀k,tv.ownBlock=R k->¬f k):kY w' s c tv lb gb:=⟨a.heap h.head b,zi h.trow a d⟩
theorem kY.later{w w':G}{s:Nat}{c:Cf}{tv:za}{lb gb:Nat}(h:kY w s c tv lb gb)(a:T w.1.size w w'):kY w' s c tv lb gb:=h.kept (f:=fun _=>False) (zh.of_below a) (fun h=>h) (fun _ _ h=>h)
theorem kY.cells{w:G}{s:Nat}{c:Cf}{tv:za}{lb gb:Nat}(h:kY w s c tv lb gb):w.cell? (U s 0)=R (I c.s)/\w.cell? (U s 1)=R (I c.le)/\w.cell? (U s 2)=R (I c.la)/\w.cell? (U s 3)=R (I c.wi)/\w.cell? (U s 4)=R (I c.ke)/\w.cell? (U s 5)=R (I c.qu)/\w.cell? (U s 6)=R tv/\w.cell? (U s 7)=R (.map (R lb))/\w.cell? (U s 8)=R (.map (R gb)):=by
 refine⟨?_,?_,?_,?_,?_,?_,?_,?_,?_⟩<;>rw[xH h.head]<;>rfl
def jJ(s:Nat)(tv:za)(lb gb:Nat)(k:Nat):Prop:=k=s\/tv.ownBlock=R k\/k=lb\/k=gb
section
variable {w:G} {s:Nat} {c:Cf} {tv:za} {lb gb:Nat} {Gl:List (Sg×Unit)} {L:LV}
theorem xE.lt(h:xE w s c tv lb gb Gl L):s<w.1.size:=zd h.head
theorem xE.kept{f:Nat->Prop}{w':G}(h:xE w s c tv lb gb Gl L)(a:zh f w w')(hn:∀k,jJ s tv lb gb k->¬f k):xE w' s c tv lb gb Gl L:=
 ⟨a.heap h.head (hn s (.inl rfl)),zi h.trow a (fun k b=>hn k (.inr (.inl b))),h.live.kept a (hn lb (.inr (.inr (.inl rfl)))),h.gone.kept a (hn gb (.inr (.inr (.inr rfl)))),h.apart⟩
theorem xE.later{w':G}(h:xE w s c tv lb gb Gl L)(a:T w.1.size w w'):xE w' s c tv lb gb Gl L:=
 h.kept (f:=fun _=>False) (zh.of_below a) (fun _ _ b=>b)
theorem xE.cells(h:xE w s c tv lb gb Gl L):w.cell? (U s 0)=R (I c.s)/\w.cell? (U s 1)=R (I c.le)/\w.cell? (U s 2)=R (I c.la)/\w.cell? (U s 3)=R (I c.wi)/\w.cell? (U s 4)=R (I c.ke)/\w.cell? (U s 5)=R (I c.qu)/\w.cell? (U s 6)=R tv/\w.cell? (U s 7)=R (.map (R lb))/\w.cell? (U s 8)=R (.map (R gb)):=by
 refine⟨?_,?_,?_,?_,?_,?_,?_,?_,?_⟩<;>rw[xH h.head]<;>rfl
end
theorem zoC(x:SX)(w:G):Calls prog 89 #[.agg (xZz x)] w (Rz w (I (qV x.2))):=by
 by_cases h:x.2.st=1
 ·have a:(x.2.st==1)=true:=by simp[h]
  rw[show qV x.2=x.2.cl.cnt from by simp[qV,h]]
  clear h
  go_enter func89,ntmps89
  go_wp2_with fail
  go_ret
  exact⟨rfl,(Q _ _).alloc (E _) _⟩
 ·have a:(x.2.st==1)=false:=by simp[h]
  rw[show qV x.2=2 from by simp[qV,h]]
  clear h
  go_enter func89,ntmps89
  go_wp2_with fail
  go_ret
  exact⟨rfl,(Q _ _).alloc (E _) _⟩
theorem zde(x:SX)(a:Nat)(k:Int)(w:G)(b:w.cell? (U a 0)=R (I k))(c:a<w.1.size):Calls prog 91 #[.agg (xZz x),(O a)] w (Rz w (.bool (x.2.st==k))):=by
 go_enter func91,ntmps91
 go_wp2_with fail
 go_ret
 exact⟨rfl,(Q _ _).alloc (E _) _⟩
theorem zjX{L:LV}{ps:List SX}(f:SV->Int)(h:ps.Perm L)(a:xg (qw (L.map (fun p=>f p.2)))):vy (ps.map (fun x:SX=>f x.2))=qw (L.map (fun p=>f p.2)):=by
 have e:qw (ps.map (fun x:SX=>f x.2))=qw (L.map (fun p=>f p.2)):=vt (h.map _)
 rw[<-e];apply kV;rw[e];exact a
theorem zeU{L:LV}{ps:List SX}(k:Int)(h:ps.Perm L):((ps.filter (fun x:SX=>x.2.st==k)).length:Int)=xR L k:=by
 unfold xR
 have e:qw (L.map (fun p=>zaN k p.2))=qw (ps.map (fun p=>zaN k p.2)):=(vt (h.map _)).symm
 rw[e]
 induction ps generalizing L with
 |nil=>rfl
 |cons p ps c=>
  have a:=c (List.Perm.refl ps) rfl
  simp only[List.map_cons,List.filter_cons,qw]
  unfold zaN at*
  by_cases b:p.2.st=k
  ·rw[if_pos (by simpa using b),if_pos b,List.length_cons,<-a];omega
  ·rw[if_neg (by simpa using b),if_neg b,<-a];omega
theorem XY{w:G}{s:Nat}{c:Cf}{tv:za}{lb gb:Nat}{Gl:List (Sg×Unit)}{L:LV}(h:xE w s c tv lb gb Gl L)(d:xg (zJ L)):
  Calls prog 43 #[(O s)] w (Rz w (I (zJ L))):=by
 have l:=h.lt
 obtain⟨-,-,-,-,-,-,-,n,-⟩:=h.cells
 have a:∀o,T w.1.size w (w.alloc o):=fun o=>(Q _ _).alloc (E _) _
 have j:=ze (Jm lb w)
 have i:=ze (zme 150 #[(O w.1.size)] zcp (fun x:SX=>qV x.2) (w.alloc (.cells #[.map (R lb)] 152)) (E _)
  (fun x W p=>zoC x W)
  (zhU (ex:=fun _=>False) w.1.size lb L _ (fun e=>e) (by simp) (by rw[xH (zp _ _)];rfl) (qA.1 (h.live.later (a _)))))
 have g:=ze d
 clear h d
 go_enter func43,ntmps43
 go_wp2_with fail
 refine(ud j).mono ?_
 rintro e m ⟨rfl,rfl⟩
 go_wp2_with fail
 refine(ud i).mono ?_
 rintro e m ⟨xs,k,rfl,b⟩
 have f:=zjX qV k (ud g)
 rw[f]
 clear f
 go_wp2_with fail
 go_ret
 exact⟨rfl,(a _).trans (b.mono (a _).size)⟩
theorem scen:∀args w,(callFunc 91 args).run prog w=.ok (.enter 91 args) w:=enters_of func91 (by kernel_rfl) rfl
theorem Qx{w:G}{s:Nat}{c:Cf}{tv:za}{lb gb:Nat}{Gl:List (Sg×Unit)}{L:LV}(h:xE w s c tv lb gb Gl L)(k:Int)(z:(k==4)=false)(v:L.length<=100000):
  Calls prog 44 #[(O s),I k] w (Rz w (I (xR L k))):=by
 have j:=h.lt
 obtain⟨-,-,-,-,-,-,-,t,-⟩:=h.cells
 have f:∀o,T w.1.size w (w.alloc o):=fun o=>(Q _ _).alloc (E _) _
 obtain⟨d,m,a,n⟩:=box2 w (.cells #[I k] 97) (.cells #[.map (R lb)] 152)
 have r:=ze (Jm lb (w.alloc (.cells #[I k] 97)))
 have q:=ze (znp 150 #[(O (w.1.size+1))] zcp 91 #[] #[(O w.1.size)] scen (fun x:SX=>x.2.st==k) _
  (fun x W l=>zde x w.1.size k W (by rw[xH ((l.block _ (zd d)).trans d)];rfl) (z9 (zd d) l.size))
  (zhU (ex:=fun _=>False) (w.1.size+1) lb L _ (fun e=>e) (by rw[n];omega) (by rw[xH m];rfl) (qA.1 (h.live.later a))) (fun xs i=>by rw[i.length_eq];omega))
 have b:=ze a
 have u:=((f (.cells #[I k] 97)).cell (p:=(U s 7)) j).trans t
 clear h v d m a n
 go_enter func44,ntmps44
 go_wp2_with fail
 refine(ud r).mono ?_
 rintro e y ⟨rfl,rfl⟩
 go_wp2_with fail
 refine(ud q).mono ?_
 rintro e y ⟨xs,i,rfl,g⟩
 rw[zeU k i]
 go_wp2_with fail
 go_ret
 exact⟨rfl,(ud b).trans (g.mono (ud b).size)⟩
theorem ziL{w:G}{s:Nat}{c:Cf}{tv:za}{lb gb:Nat}{Gl:List (Sg×Unit)}{L:LV}(h:xE w s c tv lb gb Gl L):
  Calls prog 44 #[(O s),I 4] w (Rz w (I Gl.length)):=by
 have d:=h.lt
 obtain⟨-,-,-,-,-,-,-,-,e⟩:=h.cells
 have a:∀o,T w.1.size w (w.alloc o):=fun o=>(Q _ _).alloc (E _) _
 have b:(Builtin.len_ #[153] 3 #[.map (R gb)]).run prog (w.alloc (.cells #[I 4] 97))=.ok (I Gl.length) (w.alloc (.cells #[I 4] 97)):=zlM Xe (h.gone.later (a _)) _
 clear h
 go_enter func44,ntmps44
 go_wp2_with fail
 go_ret
 exact⟨rfl,a _⟩
theorem kS(c:Cf)(a:Option Addr)(cap:Nat)(w:G):Calls prog 179 #[(cZz c a cap)] w (Rz w (I c.n)):=by
 go_enter func179,ntmps179
 go_wp2_with fail
 go_ret
 exact⟨rfl,(Q _ _).alloc (E _) _⟩
theorem Js(c:Cf)(a:Option Addr)(cap:Nat)(w:G):Calls prog 61 #[(cZz c a cap)] w (Rz w (I c.la)):=by
 go_enter func61,ntmps61
 go_wp2_with fail
 go_ret
 exact⟨rfl,(Q _ _).alloc (E _) _⟩
theorem Qs(c:Cf)(a:Option Addr)(cap:Nat)(w:G):Calls prog 63 #[(cZz c a cap)] w (Rz w (I c.qu)):=by
 go_enter func63,ntmps63
 go_wp2_with fail
 go_ret
 exact⟨rfl,(Q _ _).alloc (E _) _⟩
theorem zcE(c:Cf)(l:c.ok)(a:Option Addr)(cap:Nat)(t tm:Int)(d: -1<=t)(f:t<c.n)(j:0<=tm/\tm<=100000)(w:G)(k:TS w a c.n c.F c.W c.K):Calls prog 184 #[(cZz c a cap),I t,I tm] w (Rz w (I (tm/c.wh t))):=by
 have b:∀o,T w.1.size w (w.alloc o):=fun o=>(Q _ _).alloc (E _) _
 obtain⟨r,u⟩:=l.wh d f
 obtain⟨p,q⟩:=j
 have i:=l.n4
 have m:Hid (zP c.wi c.W t=c.wh t):=rfl
 have g:=fun o=>ze (ku c.s c.le c.la c.wi c.ke c.qu a c.n cap c.F c.W c.K t d f i (w.alloc o) (k.below (b o)))
 go_enter func184,ntmps184
 go_wp2_with fail
 refine(ud (g _)).mono ?_
 rintro e v ⟨rfl,h⟩
 rw[ud m]
 go_wp2_with fail
 go_ret
 exact⟨rfl,(b _).trans (h.mono (b _).size)⟩
theorem Jr(c:Cf)(q:c.ok)(a:Option Addr)(cap:Nat)(t wn:Int)(f: -1<=t)(g:t<c.n)(p:0<=wn/\wn<=100000)(w:G)(l:TS w a c.n c.F c.W c.K):Calls prog 180 #[(cZz c a cap),I t,I wn] w (Rz w (I ((wn+1)*c.wh t))):=by
 have b:∀o,T w.1.size w (w.alloc o):=fun o=>(Q _ _).alloc (E _) _
 obtain⟨z,m⟩:=q.wh f g
 obtain⟨x,y⟩:=p
 have k:=q.n4
 have r:Hid (zP c.wi c.W t=c.wh t):=rfl
 have i:=fun o=>ze (ku c.s c.le c.la c.wi c.ke c.qu a c.n cap c.F c.W c.K t f g k (w.alloc o) (l.below (b o)))
 have d:0<=(wn+1)*c.wh t/\(wn+1)*c.wh t<=1000000000:=by
  constructor
  ·exact Int.mul_nonneg (by omega) (by omega)
  ·have:=Int.mul_le_mul (show wn+1<=100001 by omega) m (by omega) (by omega);omega
 obtain⟨u,v⟩:=d
 have h:wrap64 ((wn+1)*c.wh t)=(wn+1)*c.wh t:=by unfold wrap64;omega
 go_enter func180,ntmps180
 go_wp2_with fail
 refine(ud (i _)).mono ?_
 rintro e A ⟨rfl,j⟩
 rw[ud r]
 go_wp2_with fail
 go_ret
 exact⟨by first|rfl|rw[h],(b _).trans (j.mono (b _).size)⟩
theorem zlh(c:Cf)(f:c.ok)(a:Option Addr)(cap:Nat)(t:Int)(w:G):Calls prog 116 #[(cZz c a cap),I t] w (Rz w (.bool (inB t (-1) ((c.n:Int)-1)))):=by
 have b:∀o,T w.1.size w (w.alloc o):=fun o=>(Q _ _).alloc (E _) _
 have i:=f.n4
 have h:=f.n1
 have g:=fun o=>ze (kS c a cap (w.alloc o))
 go_enter func116,ntmps116
 go_wp2_with fail
 refine(ud (g _)).mono ?_
 rintro e j ⟨rfl,d⟩
 go_wp2_with(go_at_call 92;refine(xQ _ _ _ _).mono ?_;rintro e k ⟨rfl,rfl⟩)
 go_ret
 exact⟨rfl,(b _).trans (d.mono (b _).size)⟩
theorem zea{w:G}{s:Nat}{c:Cf}{tv:za}{lb gb:Nat}(h:kY w s c tv lb gb)(z:c.ok)(t sr tm:Int)(l: -1<=t)(m:t<c.n)(q:0<=tm/\tm<=100000):
  Calls prog 122 #[(O s),I t,I sr,I tm] w (Rz w (.agg #[I t,I sr,I (tm/c.wh t)])):=by
 obtain⟨a,cap,rfl⟩:=zS h.trow
 have B:=h.lt
 have b:∀o,T w.1.size w (w.alloc o):=fun o=>(Q _ _).alloc (E _) _
 have f:=TS.of_owns h.trow
 obtain⟨C,D,F,H,J,K,L,-,-⟩:=h.cells
 have i:=fun o=>ze (zcE c z a cap t tm l m q (w.alloc o) (f.below (b o)))
 have u:=ze (zp w (.cells #[I 0,I 0,I 0] 146))
 have x:=ze (zN w (.cells #[I 0,I 0,I 0] 146))
 clear h f
 go_enter func122,ntmps122
 go_wp2_with fail
 refine(ud (i _)).mono ?_
 rintro e r ⟨rfl,d⟩
 have g:=(d.block w.1.size (by rw[ud x];omega)).trans (ud u)
 obtain⟨M,N,P,-⟩:=zc g
 have S:=fun j=>zv g j
 have y:=ze g
 clear g
 go_wp2_with fail
 have A:=set3 (ud y) (I t) (I sr) (I (tm/c.wh t))
 have k:T w.1.size r (((r.setCell (U w.1.size 0) (I t)).setCell (U w.1.size 1) (I sr)).setCell (U w.1.size 2) (I (tm/c.wh t))):=(((Q _ _).setCell (p:=(U w.1.size 0)) (E _) _).setCell (p:=(U w.1.size 1)) (E _) _).setCell (p:=(U w.1.size 2)) (E _) _
 refine bodyPost_ret (v:=.agg #[I t,I sr,I (tm/c.wh t)]) (results_cell_row results122 _ _ w.1.size _ _ _ _ rfl A underlying146 rfl (by kernel_rfl)) rfl ?_
 exact⟨rfl,(b _).trans ((d.mono (b _).size).trans k)⟩
theorem zft(c:Cf)(a:Option Addr)(cap:Nat)(w:G):Calls prog 103 #[(cZz c a cap)] w (Rz w (I c.le)):=by
 go_enter func103,ntmps103
 go_wp2_with fail
 go_ret
 exact⟨rfl,(Q _ _).alloc (E _) _⟩
theorem zit(c:Cf)(d:c.ok)(a:Option Addr)(cap:Nat)(t:Int)(w:G):Calls prog 46 #[(cZz c a cap),I t] w (Rz w (.bool (inB t 0 (c.s-1)))):=by
 have b:∀o,T w.1.size w (w.alloc o):=fun o=>(Q _ _).alloc (E _) _
 obtain⟨g,h⟩:=d.sl
 have f:=fun W=>ze (xQ t 0 (c.s-1) W)
 clear d
 go_enter func46,ntmps46
 go_wp2_with(first|(go_at_call 92;refine(ud (f _)).mono ?_;rintro e i ⟨rfl,rfl⟩))
 go_ret
 exact⟨rfl,b _⟩
theorem zfs(c:Cf)(j:c.ok)(a:Option Addr)(cap:Nat)(t:Int)(q: -1<=t)(r:t<c.n)(w:G)(f:TS w a c.n c.F c.W c.K):Calls prog 234 #[(cZz c a cap),I t] w (Rz w (I (c.keep t))):=by
 have p:=j.n4
 have d:∀o,T w.1.size w (w.alloc o):=fun o=>(Q _ _).alloc (E _) _
 by_cases h:t= -1
 ·subst h
  rw[show c.keep (-1)=c.ke from rfl]
  go_enter func234,ntmps234
  go_wp2_with fail
  go_ret
  exact⟨rfl,d _⟩
 ·obtain⟨k,rfl⟩:∃k:Nat,t=k:=⟨t.toNat,by omega⟩
  have l:k<c.n:=by omega
  obtain⟨b,s,rfl,i,e⟩:=f.below (d (.cells (aZz c a cap) 27)) (by omega)
  obtain⟨-,-,v⟩:=e k l
  have m:(k:Int)<c.n:=by omega
  have u:((k:Int)== -1)=false:=by simp
  have g:Hid (c.keep (k:Int)=c.K k):=by show c.keep (k:Int)=c.K k;unfold Cf.keep;rw[if_neg (by omega)];simp
  clear e f
  rw[ud g]
  go_enter func234,ntmps234
  go_wp2_with fail
  go_ret
  exact⟨rfl,d _⟩
theorem K8(c:Cf)(m:c.ok)(a:Option Addr)(cap:Nat)(t wn now:Int)(r: -1<=t)(s:t<c.n)(d:0<=wn/\wn<=100000)(q:0<=now/\now<=100000)(w:G)(e:TS w a c.n c.F c.W c.K):Calls prog 117 #[(cZz c a cap),I t,I wn,I now] w (Rz w (.bool (decide ((wn+1)*c.wh t<=now-c.la)))):=by
 have k:∀o,T w.1.size w (w.alloc o):=fun o=>(Q _ _).alloc (E _) _
 obtain⟨S,U⟩:=m.la
 have Y:=ze m
 have x:=d
 obtain⟨n1,Z⟩:=q
 have p:0<=(wn+1)*c.wh t/\(wn+1)*c.wh t<=1000000000:=by
  obtain⟨V,C⟩:=m.wh r s
  constructor
  ·exact Int.mul_nonneg (by omega) (by omega)
  ·have:=Int.mul_le_mul (show wn+1<=100001 by omega) C (by omega) (by omega);omega
 have M:=ze d
 obtain⟨v,hv⟩:∃v,(wn+1)*c.wh t=v:=⟨_,rfl⟩
 have y:∀W,T w.1.size w W->Hid (Calls prog 180 #[(cZz c a cap),I t,I wn] W (Rz W (I v))):=fun W P=>by have h:=Jr c m a cap t wn r s d W (e.below P);rw[hv]at h;exact h
 rw[hv]at p ⊢
 clear m d x hv
 have l:=k (.cells (aZz c a cap) 89)
 have D:=zp w (.cells (aZz c a cap) 89)
 have H:=zN w (.cells (aZz c a cap) 89)
 obtain⟨x0,x1,x2,x3,x4,x5,x6,-⟩:=zc D
 have f:=ze l
 have L:=ze e
 have J:=ze H
 clear D H l e k
 go_enter func117,ntmps117
 go_wp2_with fail
 have q4:w.1.size<w.1.size+1:=by omega
 generalize(w.alloc (.cells (aZz c a cap) 89))=X at*
 generalize O:w.1.size+1=N at*
 have B:Nonempty (xc N X):=xc.some _ _
 have A:=fun(u:xc N X) b o h=>u.cell b o h
 have j:N<=X.1.size:=by rw[ud J];exact E _
 have i:=ze j
 have g:Hid (w.1.size<=N):=by show w.1.size<=N;omega
 clear j O
 refine zx N (by kernel_rfl) (by kernel_rfl) ?_
 repeat(go_big_quiet_step (first
  |(go_at_call 180;exact Calls.later (ud i) (ud (y _ ((ud f).trans (Below.mono (Subtype.property _) (ud g))))))
  |(go_at_call 61;exact Calls.later (ud i) (Js c a cap _))))
 refine wpQuiet_nil ?_
 rintro⟨w1,z⟩
 clear A B
 dsimp only
 go_wp2_with fail
 go_ret
 exact⟨rfl,(ud f).trans (z.mono (ud g))⟩
theorem zaV(c:Cf)(q:c.ok)(a:Option Addr)(cap:Nat)(t wn:Int)(d: -1<=t)(e:t<c.n)(j:0<=wn/\wn<=100000)(w:G)(i:TS w a c.n c.F c.W c.K):Calls prog 177 #[(cZz c a cap),I t,I wn] w (Rz w (I ((wn+1)*c.wh t+c.keep t))):=by
 have m:∀o,T w.1.size w (w.alloc o):=fun o=>(Q _ _).alloc (E _) _
 have J:=ze q
 obtain⟨S,U⟩:=q.keeps d e
 have r:0<=(wn+1)*c.wh t/\(wn+1)*c.wh t<=1000000000:=by
  obtain⟨P,B⟩:=q.wh d e
  constructor
  ·exact Int.mul_nonneg (by omega) (by omega)
  ·have:=Int.mul_le_mul (show wn+1<=100001 by omega) B (by omega) (by omega);omega
 have L:=ze j
 obtain⟨v,hv⟩:∃v,(wn+1)*c.wh t=v:=⟨_,rfl⟩
 have s:∀W,T w.1.size w W->Hid (Calls prog 180 #[(cZz c a cap),I t,I wn] W (Rz W (I v))):=fun W O=>by have h:=Jr c q a cap t wn d e j W (i.below O);rw[hv]at h;exact h
 rw[hv]at r ⊢
 clear q j hv
 have p:=m (.cells (aZz c a cap) 89)
 have C:=zp w (.cells (aZz c a cap) 89)
 have D:=zN w (.cells (aZz c a cap) 89)
 obtain⟨Z,x1,x2,x3,x4,x5,x6,-⟩:=zc C
 have f:=ze p
 have x:=ze i
 have H:=ze D
 clear C D p i m
 go_enter func177,ntmps177
 go_wp2_with fail
 have V:w.1.size<w.1.size+1:=by omega
 generalize(w.alloc (.cells (aZz c a cap) 89))=X at*
 generalize M:w.1.size+1=N at*
 have A:Nonempty (xc N X):=xc.some _ _
 have z:=fun(u:xc N X) b o h=>u.cell b o h
 have l:N<=X.1.size:=by rw[ud H];exact E _
 have k:=ze l
 have g:Hid (w.1.size<=N):=by show w.1.size<=N;omega
 clear l M
 refine zx N (by kernel_rfl) (by kernel_rfl) ?_
 repeat(go_big_quiet_step (first
  |(go_at_call 180;exact Calls.later (ud k) (ud (s _ ((ud f).trans (Below.mono (Subtype.property _) (ud g))))))
  |(go_at_call 234;exact Calls.later (ud k) (zfs c (ud J) a cap t d e _ ((ud x).below ((ud f).trans (Below.mono (Subtype.property _) (ud g))))))))
 refine wpQuiet_nil ?_
 rintro⟨Y,y⟩
 clear z A
 dsimp only
 go_wp2_with fail
 go_ret
 exact⟨rfl,(ud f).trans (y.mono (ud g))⟩
theorem Zi{P:Program}{fn:Func}{p u:Tmp}{b:TypeId}(h:fn.results=#[.tmp u,.cell p b])(tmps:Array za)(w:G)(g:Nat)(t:TypeId)(cs:Array za)(c:Nat×Nat)(d:TypeDesc)(x:za)
  (m:tmps.getD u undef=x) (k:tmps.getD p undef=(O g)) (i:w.1[g]?=R (.cells cs t c))
  (l:P.underlying b=R d) (f:(match d with| .struct _| .array _ _=>true|_=>false)=true) (j:(P.info? b).map (·.size)=R cs.size):
  (results fn tmps).run P w=.ok (.tuple #[x,.agg cs]) w:=by
 have e:(results fn tmps).run P w=((asAddr (tmps.getD p undef)).run P w).andThen fun a n=>((loadVar b a).run P n).andThen fun v o=> .ok (.tuple #[tmps.getD u undef,v]) o:=by
  simp only[results,h]
  simp[Sem.run_bind,Result.andThen]
 rw[e,k,m]
 simp[asAddr,run_loadVar_row w g t b cs c d i l f j,Result.andThen]
theorem zjl{w:G}{g:Nat}{a b c d:za}{t:TypeId}{e:Nat×Nat}(h:w.1[g]?=R (.cells #[a,b,c,d] t e))(x y z u:za):(((((w.setCell (U g 0) x).setCell (U g 1) y).setCell (U g 2) z).setCell (U g 3) u).drew).1[g]?=R (.cells #[x,y,z,u] t e):=by
 have:=xy (i:=3) (xy (i:=2) (xy (i:=1) (xy (i:=0) h x) y) z) u
 exact this
theorem YF{B:Nat}{w:G}{g:Nat}(h:B<=g)(x y z u:za):T B w (((((w.setCell (U g 0) x).setCell (U g 1) y).setCell (U g 2) z).setCell (U g 3) u).drew):=
 (((((Q _ _).setCell (p:=(U g 0)) h _).setCell (p:=(U g 1)) h _).setCell (p:=(U g 2)) h _).setCell (p:=(U g 3)) h _).drew
theorem below4{B:Nat}{w:G}{g:Nat}(h:B<=g)(x y z u:za):T B w ((((w.setCell (U g 0) x).setCell (U g 1) y).setCell (U g 2) z).setCell (U g 3) u):=
 ((((Q _ _).setCell (p:=(U g 0)) h _).setCell (p:=(U g 1)) h _).setCell (p:=(U g 2)) h _).setCell (p:=(U g 3)) h _
def stX(L:LV)(s:Sg):SX:=match yY L s with
 |some v=>(s,v)
 |none=>zX
theorem zjq(L:LV)(s:Sg):(stX L s).2=stL L s:=by unfold stX stL;cases yY L s<;>rfl
theorem znR(L:LV)(s:Sg):zcD false (kN zX) L s=kN (stX L s):=by
 unfold zcD stX;cases yY L s<;>rfl
theorem zaW{w X:G}{gb:Nat}{Gl:List (Sg×Unit)}{s:Sg}(hn:zD Gl s=none)(b:xe je w gb Gl)(a:T w.1.size w X)(c:s.wf):(Instr.lookup 153 (.map (R gb)) (.agg #[I s.t,I s.sr,I s.wn]) true).run prog X=.ok (.tuple #[.agg #[],.bool false]) X:=by
 have h:=kt Xe true (b.later a) c
 rw[hn]at h
 exact h
theorem zaX{w X:G}{gb:Nat}{Gl:List (Sg×Unit)}{s:Sg}(hn:zD Gl s=R ())(b:xe je w gb Gl)(a:T w.1.size w X)(c:s.wf):(Instr.lookup 153 (.map (R gb)) (.agg #[I s.t,I s.sr,I s.wn]) true).run prog X=.ok (.tuple #[.agg #[],.bool true]) X:=by
 have h:=kt Xe true (b.later a) c
 rw[hn]at h
 exact h
theorem VE{w X:G}{lb:Nat}{L:LV}{s:Sg}{v:SX}(hv:v=stX L s)(b:yA w lb L)(a:T w.1.size w X)(c:s.wf):(Instr.lookup 152 (.map (R lb)) (.agg #[I s.t,I s.sr,I s.wn]) false).run prog X=.ok (.agg (xZz v)) X:=by
 subst hv
 have:=zel false (b.later a) c
 rw[znR]at this
 exact this
theorem zfE{w:G}{b:Nat}{c:Cf}{tv:za}{lb gb:Nat}{Gl:List (Sg×Unit)}{L:LV}(h:xE w b c tv lb gb Gl L)(s:Sg)(hs:s.wf)(x:zD Gl s=none):
  Calls prog 118 #[(O b),.agg #[I s.t,I s.sr,I s.wn]] w (Rz w (.tuple #[I (stL L s).st,clV (stL L s).cl])):=by
 obtain⟨v,hv⟩:∃v,v=stX L s:=⟨_,rfl⟩
 rw[<-zjq,<-hv]
 have n:=ze hv
 clear hv
 have y:=h.lt
 obtain⟨-,-,-,-,-,-,-,N,P⟩:=h.cells
 have H:=ze h
 obtain⟨M,y1,a,yz⟩:=box2 w (.cells #[I s.t,I s.sr,I s.wn] 146) Qd
 have i:=ze hs
 have f:=ze x
 clear h hs x
 go_enter func118,ntmps118
 go_wp2_with fail
 generalize((w.alloc (.cells #[I s.t,I s.sr,I s.wn] 146)).alloc Qd)=X at*
 obtain⟨k0,k1,k2,-⟩:=zc M
 have x7:=(a.cell (p:=(U b 7)) y).trans N
 have x8:=(a.cell (p:=(U b 8)) y).trans P
 have C:=zaW (ud f) (X:=X) (ud H).gone a (ud i)
 have D:=zaW (ud f) (X:=X.drew) (ud H).gone a.drew (ud i)
 have F:=fun o=>zaW (ud f) (X:=X.alloc o) (ud H).gone (a.alloc a.size o) (ud i)
 have J:=fun o=>zaW (ud f) (X:=(X.alloc o).drew) (ud H).gone (a.alloc a.size o).drew (ud i)
 have K:=fun o=>zaW (ud f) (X:=X.drew.alloc o) (ud H).gone (a.drew.alloc a.drew.size o) (ud i)
 have Y1:=ze y1
 have B:=ze yz
 have m:=ze a
 have Y0:=ze M
 clear M y1 yz a N P
 have u:b<X.1.size:=by have:=ud B;omega
 have k:w.1.size<X.1.size:=by have:=ud B;omega
 have g:w.1.size+1<X.1.size:=by have:=ud B;omega
 go_region
 have e:T X.1.size X ((X.alloc Vi).drew):=((Q _ _).alloc (E _) _).drew
 have d:T w.1.size w ((X.alloc Vi).drew):=(ud m).trans (e.mono (ud m).size)
 generalize((X.alloc Vi).drew)=Y at*
 have m0:=(e.cell (p:=(U w.1.size 0)) k).trans k0
 have m1:=(e.cell (p:=(U w.1.size 1)) k).trans k1
 have m2:=(e.cell (p:=(U w.1.size 2)) k).trans k2
 have y7:=(e.cell (p:=(U b 7)) u).trans x7
 have S:=(e.block (w.1.size+1) g).trans (ud Y1)
 clear C D F J K k0 k1 k2 x7 x8
 have a1:=e.size
 have u:b<Y.1.size:=by omega
 have k:w.1.size<Y.1.size:=by omega
 have g:w.1.size+1<Y.1.size:=by omega
 have C:=VE (hv:=ud n) (X:=Y) (ud H).live d (ud i)
 have D:=VE (hv:=ud n) (X:=Y.drew) (ud H).live d.drew (ud i)
 have F:=fun o=>VE (hv:=ud n) (X:=Y.alloc o) (ud H).live (d.alloc d.size o) (ud i)
 have J:=fun o=>VE (hv:=ud n) (X:=(Y.alloc o).drew) (ud H).live (d.alloc d.size o).drew (ud i)
 have K:=fun o=>VE (hv:=ud n) (X:=Y.drew.alloc o) (ud H).live (d.drew.alloc d.drew.size o) (ud i)
 have q:=ze d
 have E1:=ze S
 clear e d S
 go_wp2_with fail
 go_region
 have l:T Y.1.size Y ((Y.alloc (.cells (xZz v) 148)).drew):=((Q _ _).alloc (E _) _).drew
 have r:((Y.alloc (.cells (xZz v) 148)).drew).1[Y.1.size]?=R (.cells (xZz v) 148 (0,0)):=zp _ _
 generalize((Y.alloc (.cells (xZz v) 148)).drew)=Z at*
 obtain⟨z0,z1,z2,z3,z4,z5,z6,z7,-⟩:=zc r
 have z:=(l.block (w.1.size+1) g).trans (ud E1)
 obtain⟨r0,r1,r2,r3,-⟩:=zc z
 have rf:=fun j=>zv z j
 have a2:(w.1.size+1==Y.1.size)=false:=by simp;omega
 have V:(Y.1.size==w.1.size+1)=false:=by simp;omega
 have W:¬w.1.size+1=Y.1.size:=by omega
 have a0:¬Y.1.size=w.1.size+1:=by omega
 have EZ:=ze z
 have A:=ze l
 clear C D F J K m0 m1 m2 y7 r z l
 go_wp2_with fail
 go_region
 go_wp2_with fail
 have hf:=zjl (ud EZ) (I v.2.cl.cnt) (I v.2.cl.sum) (int i32 v.2.cl.mn) (int i32 v.2.cl.mx)
 refine bodyPost_ret (v:=.tuple #[I v.2.st,.agg #[I v.2.cl.cnt,I v.2.cl.sum,int i32 v.2.cl.mn,int i32 v.2.cl.mx]]) (Zi results118 _ _ (w.1.size+1) _ _ _ _ _ rfl rfl hf underlying115 rfl (by kernel_rfl)) rfl ?_
 exact⟨rfl,((ud q).trans ((ud A).mono (ud q).size)).trans (YF (Nat.le_succ _) _ _ _ _)⟩
theorem zfD{w:G}{b:Nat}{c:Cf}{tv:za}{lb gb:Nat}{Gl:List (Sg×Unit)}{L:LV}(h:xE w b c tv lb gb Gl L)(s:Sg)(A:s.wf)(l:zD Gl s=R ()):
  Calls prog 118 #[(O b),.agg #[I s.t,I s.sr,I s.wn]] w (Rz w (.tuple #[I 4,clV qt])):=by
 have m:=h.lt
 obtain⟨-,-,-,-,-,-,-,y,z⟩:=h.cells
 have H:=ze h
 obtain⟨x,B,a,C⟩:=box2 w (.cells #[I s.t,I s.sr,I s.wn] 146) Qd
 have k:=ze A
 have d:=ze l
 clear h A l
 go_enter func118,ntmps118
 go_wp2_with fail
 generalize((w.alloc (.cells #[I s.t,I s.sr,I s.wn] 146)).alloc Qd)=X at*
 obtain⟨k0,k1,k2,-⟩:=zc x
 have x7:=(a.cell (p:=(U b 7)) m).trans y
 have x8:=(a.cell (p:=(U b 8)) m).trans z
 have J:=zaX (ud d) (X:=X) (ud H).gone a (ud k)
 have K:=zaX (ud d) (X:=X.drew) (ud H).gone a.drew (ud k)
 have M:=fun o=>zaX (ud d) (X:=X.alloc o) (ud H).gone (a.alloc a.size o) (ud k)
 have N:=fun o=>zaX (ud d) (X:=(X.alloc o).drew) (ud H).gone (a.alloc a.size o).drew (ud k)
 have P:=fun o=>zaX (ud d) (X:=X.drew.alloc o) (ud H).gone (a.drew.alloc a.drew.size o) (ud k)
 have F:=ze B
 have u:=ze C
 have g:=ze a
 have Y0:=ze x
 clear x B C a y z
 have V:b<X.1.size:=by have:=ud u;omega
 have Z:w.1.size<X.1.size:=by have:=ud u;omega
 have f:w.1.size+1<X.1.size:=by have:=ud u;omega
 go_region
 have e:T X.1.size X ((X.alloc Vi).drew):=((Q _ _).alloc (E _) _).drew
 have n:T w.1.size w ((X.alloc Vi).drew):=(ud g).trans (e.mono (ud g).size)
 generalize((X.alloc Vi).drew)=Y at*
 have q:=(e.block (w.1.size+1) f).trans (ud F)
 clear J K M N P k0 k1 k2 x7 x8
 have S:=e.size
 have f:w.1.size+1<Y.1.size:=by omega
 obtain⟨r0,r1,r2,r3,-⟩:=zc q
 have rf:=fun j=>zv q j
 have r:=ze n
 have D:=ze q
 clear e n q
 go_wp2_with fail
 have W:=xy (i:=3) (xy (i:=2) (xy (i:=1) (xy (i:=0) (ud D) (I 0)) (I 0)) (int i32 0)) (int i32 0)
 refine bodyPost_ret (v:=.tuple #[I 4,.agg #[I 0,I 0,int i32 0,int i32 0]]) (Zi results118 _ _ (w.1.size+1) _ _ _ _ _ rfl rfl W underlying115 rfl (by kernel_rfl)) rfl ?_
 exact⟨rfl,(ud r).trans (below4 (Nat.le_succ _) _ _ _ _)⟩
def stG(Gl:List (Sg×Unit))(L:LV)(s:Sg):SV:=match zD Gl s with
 |none=>stL L s
 |some _=>⟨4,qt⟩
theorem zbg{w:G}{b:Nat}{c:Cf}{tv:za}{lb gb:Nat}{Gl:List (Sg×Unit)}{L:LV}(h:xE w b c tv lb gb Gl L)(s:Sg)(d:s.wf):
  Calls prog 118 #[(O b),.agg #[I s.t,I s.sr,I s.wn]] w (Rz w (.tuple #[I (stG Gl L s).st,clV (stG Gl L s).cl])):=by
 unfold stG
 cases a:zD Gl s with
 |none=>exact zfE h s d a
 |some u=>exact zfD h s d a
theorem QR{w:G}{b:Nat}{c:Cf}{tv:za}{lb gb:Nat}{Gl:List (Sg×Unit)}{L:LV}(h:xE w b c tv lb gb Gl L)(s:Sg)(g:s.wf):
  Calls prog 121 #[(O b),.agg #[I s.t,I s.sr,I s.wn]] w (Rz w (.bool ((stG Gl L s).st==0))):=by
 have a:∀o,T w.1.size w (w.alloc o):=fun o=>(Q _ _).alloc (E _) _
 have f:=fun o=>ze (zbg (h.later (a o)) s g)
 unfold clV at f
 clear h g
 generalize stG Gl L s=v at*
 go_enter func121,ntmps121
 go_wp2_with fail
 refine(ud (f _)).mono ?_
 rintro e i ⟨rfl,d⟩
 go_wp2_with fail
 go_ret
 exact⟨rfl,((a _).trans (d.mono (a _).size)).alloc (zb (a _).size d.size) _⟩
theorem zpg(v:SX)(W:G):(Instr.field 148 (.agg (xZz v)) 1).run prog W=.ok (I v.2.st) W:=by kernel_rfl
theorem Zz{w:G}{b:Nat}{c:Cf}{tv:za}{lb gb:Nat}{Gl:List (Sg×Unit)}{L:LV}(h:xE w b c tv lb gb Gl L)(s:Sg)(j:s.wf):
  Calls prog 175 #[(O b),.agg #[I s.t,I s.sr,I s.wn]] w (Rz w (.bool ((stL L s).st==2))):=by
 obtain⟨v,hv⟩:∃v,v=stX L s:=⟨_,rfl⟩
 rw[<-zjq,<-hv]
 have g:=h.lt
 obtain⟨-,-,-,-,-,-,-,i,-⟩:=h.cells
 have f:∀o,T w.1.size w (w.alloc o):=fun o=>(Q _ _).alloc (E _) _
 have a:=f (.cells #[I s.t,I s.sr,I s.wn] 146)
 have k:=zp w (.cells #[I s.t,I s.sr,I s.wn] 146)
 have q:=zN w (.cells #[I s.t,I s.sr,I s.wn] 146)
 have e:=fun X l=>VE (hv:=hv) (X:=X) h.live l j
 clear h j hv
 go_enter func175,ntmps175
 go_wp2_with fail
 generalize(w.alloc (.cells #[I s.t,I s.sr,I s.wn] 146))=X at*
 obtain⟨y,z,A,-⟩:=zc k
 have B:=(a.cell (p:=(U b 7)) g).trans i
 have u:=e X a
 have x:=e X.drew a.drew
 have r:=zpg v
 have n:w.1.size<X.1.size:=by omega
 have m:b<X.1.size:=by omega
 have d:=ze a
 clear e k q a i
 go_region
 go_wp2_with fail
 go_ret
 exact⟨rfl,(ud d).drew⟩
attribute [local go_sem] Oper.semAt_some
def Vk(c:Cf)(t st:Int)(k:Nat):List (Int×Int):=((List.range k).filter (fun i=>c.F i==t)).map (fun i:Nat=>((i:Int),st/c.W i))
theorem zal(c:Cf)(t st:Int)(k:Nat):Vk c t st (k+1)=if c.F k=t then Vk c t st k++[((k:Int),st/c.W k)]else Vk c t st k:=by
 unfold Vk
 rw[List.range_succ,List.filter_append,List.map_append]
 by_cases h:c.F k=t<;>simp[h]
theorem zdw(c:Cf)(t st:Int)(k:Nat):(Vk c t st k).length<=k:=by
 unfold Vk;rw[List.length_map];exact zb (List.length_filter_le _ _) (by simp)
abbrev WP:={p:Int×Int//xg p.1/\xg p.2}
noncomputable def Vg (p:Int×Int):WP:=by classical exact if h:xg p.1/\xg p.2 then⟨p,h⟩else⟨(0,0),by unfold xg;simp⟩
theorem zbS{p:Int×Int}(h:xg p.1/\xg p.2):(Vg p).1=p:=by unfold Vg;rw[dif_pos h]
theorem zgI{c:Cf}(b:c.ok){st:Int}(a:0<=st/\st<=1000000000){k:Nat}(d:k<c.n):xg (((k:Int),st/c.W k):Int×Int).1/\xg (((k:Int),st/c.W k):Int×Int).2:=by
 obtain⟨h,i⟩:=b.W k d
 have g:=b.n4
 have e:0<=st/c.W k:=Int.ediv_nonneg a.1 (by omega)
 have f:st/c.W k<=st:=Int.ediv_le_self _ a.1
 unfold xg;simp only;omega
structure AR(W:G)(q Bs:Nat)(c:Cf)(a:Option Addr)(cap:Nat)(t st:Int):Prop where
 b0:W.1[q]?=R (.cells (aZz c a cap) 89 (0,0))
 b1:W.1[q+1]?=R (.cells #[I t] 3 (0,0))
 b2:W.1[Bs]?=R (.cells #[I st] 3 (0,0))
 ts:TS W a c.n c.F c.W c.K
theorem AR.later{W e:G}{q d:Nat}{c:Cf}{a:Option Addr}{cap:Nat}{t st:Int}(h:AR W q d c a cap t st)(b:T W.1.size W e):AR e q d c a cap t st:=
 ⟨(b.block _ (zd h.b0)).trans h.b0,(b.block _ (zd h.b1)).trans h.b1,(b.block _ (zd h.b2)).trans h.b2,h.ts.below b⟩
theorem VA(c:Cf)(z:c.ok)(a:Option Addr)(cap:Nat)(t wn:Int)(k: -1<=t)(l:t<c.n)(P:0<=wn/\wn<=100000)(w:G)(h:TS w a c.n c.F c.W c.K):
  Calls prog 236 #[(cZz c a cap),I t,I wn] w fun e w'=>∃r,e=.returned (.func (.func 264) #[] #[(O w.1.size),(O (w.1.size+1)),(O r)])/\AR w' w.1.size r c a cap t (wn*c.wh t)/\w.1.size<=r/\T w.1.size w w':=by
 obtain⟨B,C,g,H⟩:=box2 w (.cells (aZz c a cap) 89) (.cells #[I t] 3)
 obtain⟨b,m⟩:=z.wh k l
 have j:0<=wn*c.wh t/\wn*c.wh t<=1000000000:=by
  constructor
  ·exact Int.mul_nonneg (by omega) (by omega)
  ·have:=Int.mul_le_mul (show wn<=100000 by omega) m (by omega) (by omega);omega
 have A:=z.n4
 have d:=ze (ku c.s c.le c.la c.wi c.ke c.qu a c.n cap c.F c.W c.K t k l A _ (h.below g))
 rw[show zP c.wi c.W t=c.wh t from rfl]at d
 have y:=ze h
 clear h z
 obtain⟨v,hv⟩:∃v,c.wh t=v:=⟨_,rfl⟩
 rw[hv]at d j b m ⊢
 clear hv
 obtain⟨U,-⟩:=zc C
 obtain⟨V,Y,Z,x3,x4,x5,x6,-⟩:=zc B
 have J:=ze B
 have L:=ze C
 have M:=ze H
 have x:=ze g
 have D:wrap64 (wn*v)=wn*v:=by unfold wrap64;omega
 clear B C H g
 go_enter func236,ntmps236
 go_wp2_with fail
 generalize((w.alloc (.cells (aZz c a cap) 89)).alloc (.cells #[I t] 3))=X at*
 refine(ud d).mono ?_
 rintro e p ⟨rfl,i⟩
 have u:=ze i
 clear i
 go_wp2_with fail
 go_ret
 have q:=ud u
 have S:X.1.size=w.1.size+2:=ud M
 have N:=q.size
 have b:T w.1.size w p:=(ud x).trans (q.mono (by omega))
 have f:T p.1.size p (p.alloc (.cells #[I (wn*v)] 3)):=(Q _ _).alloc (E _) _
 have o:=b.trans (f.mono b.size)
 refine⟨p.1.size,rfl,⟨(f.block _ (by omega)).trans ((q.block _ (by omega)).trans (ud J)),(f.block _ (by omega)).trans ((q.block _ (by omega)).trans (ud L)),zp _ _,(ud y).below o⟩,b.size,o⟩
theorem zeD(l q s:Nat)(c:Cf)(M:c.ok)(a:Option Addr)(cap:Nat)(t st:Int)(a1:0<=st/\st<=1000000000)(Kp:G->G->Prop)(C:∀A B,Kp A B->AR A q s c a cap t st->AR B q s c a cap t st)(D:∀A B,Kp A B->A.1.size<=B.1.size)(J Jx:List WP->G->Prop)
  (hY:∀g x V,J g V->g.length<c.n->YieldAt Fence.wide 5 prog l #[I x.1.1,I x.1.2] V fun e L=>(e=.returned (.bool true)/\J (g++[x]) L/\Kp V L)\/(e=.returned (.bool false)/\Jx (g++[x]) L/\Kp V L))
  (W:G) (hJ:OwnFrom W.1.size J) (Z:AR W q s c a cap t st) (h0:J [] W):
  CallsIn Fence.wide 6 prog 264 #[.func (.yield l) #[] #[],(O q),(O (q+1)),(O s)] W fun e W'=>(∃v,e=.returned v)/\
   ((∃xs,xs=(Vk c t st c.n).map Vg/\J xs W')\/(∃g,True/\Jx g W')):=by
 obtain⟨-,-,-,-,-,-,q6,-⟩:=zc Z.b0
 have a7:=M.n4
 have a6:=M.n1
 have HC:=ze M
 have HR:=ze Z
 have HJ:=ze hJ
 have HY:=ze hY
 have S:=ze C
 have U:=ze D
 clear Z hJ hY C M D
 refine callsIn_of_wp func264 rfl trivial ?_ rfl
 simp only[ntmps264,sZz,Nat.reduceAdd,Nat.reduceSub]
 gi_wp2
 gi_loopw [5,6,11] (fun _ _ i wr=>∃k:Nat,k<=c.n/\i=I k/\J ((Vk c t st k).map Vg) wr/\AR wr q s c a cap t st/\W.1.size<=wr.1.size)
  (fun _ _ i _=>c.n-(intOf i).toNat)
 case atStart=>exact⟨0,Nat.zero_le _,rfl,h0,ud HR,E _⟩
 case round=>
  obtain⟨k,hk,rfl,p,f,a4⟩:=hrel
  by_cases m:k<c.n
  ·have a3:(k:Int)<c.n:=by omega
   obtain⟨b,ac,ha,a5,H⟩:=f.ts (by omega)
   obtain⟨f0,f1,f2⟩:=H k m
   obtain⟨q1,-⟩:=zc f.b1
   obtain⟨q2,-⟩:=zc f.b2
   have a8:=zd f.b1
   have a9:=zd f.b2
   have u:=ze f
   obtain⟨w1,w2⟩:=(ud HC).W k m
   have aa:¬c.W k=0:=by omega
   have HA:=ze ha
   subst ha
   clear f H
   by_cases r:c.F k=t
   ·have Y:(c.F k==t)=true:=by simpa using r
    have d:T wr.1.size wr (wr.alloc (.cells #[I (c.F k),I (c.W k),I (c.K k)] 80)):=(Q _ _).alloc (E _) _
    have w:=zO (ud HJ) p d
    obtain⟨fn,tmps,assign,body,hy,a0⟩:=ud HY _ (Vg ((k:Int),st/c.W k)) _ w (by rw[List.length_map];exact Nat.lt_of_le_of_lt (zdw c t st k) m)
    rw[zbS (zgI (ud HC) a1 m)]at hy
    dsimp only at hy
    have HF:=ze r
    have o:=ze ((ud u).later d)
    have a2:=d.size
    clear r w d
    gi_wp2
    refine a0.mono ?_
    rintro e W3 (⟨rfl,y,j⟩|⟨rfl,z,j⟩)
    ·have X:=ze (ud S _ _ j (ud o))
     have ab:=ud U _ _ j
     have P:Hid (J ((Vk c t st (k+1)).map Vg) W3):=by show J _ W3;rw[zal,if_pos (ud HF),List.map_append,List.map_singleton];exact y
     clear y j
     gi_wp2
     go_roundw
     case rel=>exact⟨k+1,by omega,by simp,ud P,ud X,by omega⟩
     case measure=>simp[intOf];omega
    ·gi_wp2
     refine bodyPost_ret (results_none rfl _ _ _) rfl ?_
     exact⟨⟨_,rfl⟩,.inr ⟨_,trivial,z⟩⟩
   ·have Y:(c.F k==t)=false:=by simpa using r
    have d:T wr.1.size wr (wr.alloc (.cells #[I (c.F k),I (c.W k),I (c.K k)] 80)):=(Q _ _).alloc (E _) _
    have N:Hid (J ((Vk c t st (k+1)).map Vg) (wr.alloc (.cells #[I (c.F k),I (c.W k),I (c.K k)] 80))):=by show J _ _;rw[zal,if_neg r];exact zO (ud HJ) p d
    have o:=ze ((ud u).later d)
    have a2:=d.size
    clear r d
    gi_wp2
    refine⟨fun _ h=>(by cases h),?_⟩
    gi_wp2
    go_roundw
    case rel=>exact⟨k+1,by omega,by simp,ud N,ud o,Nat.le_trans (by omega) a2⟩
    case measure=>simp[intOf];omega
  ·obtain rfl:k=c.n:=by omega
   gi_wp2
   go_end0
   exact⟨⟨_,rfl⟩,.inl ⟨_,rfl,p⟩⟩
theorem zgJ(q b:Nat)(c:Cf)(r:c.ok)(a:Option Addr)(cap:Nat)(t st:Int)(f:0<=st/\st<=1000000000)(Kp:G->G->Prop)(d:∀A B,Kp A B->AR A q b c a cap t st->AR B q b c a cap t st)(e:∀A B,Kp A B->A.1.size<=B.1.size)(m:Nat)(w:G)(k:AR w q b c a cap t st):
  Yb Fence.wide 6 prog 264 #[(O q),(O (q+1)),(O b)] (fun x:WP=>#[I x.1.1,I x.1.2]) Kp (fun xs=>xs=(Vk c t st c.n).map Vg) (fun _=>True) c.n m w:=
 fun l J g W o _ i j p h=>zeD l q b c r a cap t st f Kp d e J g p W i (k.later o) h
theorem zam:∀args w,(callFunc 264 args).run prog w=.ok (.enter 264 args) w:=enters_of func264 (by kernel_rfl) rfl
def qa(c:Cf)(k:Nat):Int:=c.wh (k:Int)/c.wh (c.F k)
theorem Xl{c:Cf}(a:c.ok){k:Nat}(f:k<c.n):0<=qa c k/\qa c k<=1000:=by
 obtain⟨g,h⟩:=a.wh (t:=(k:Int)) (by omega) (by omega)
 obtain⟨d,e⟩:=a.F k f
 obtain⟨i,j⟩:=a.wh d e
 unfold qa
 constructor
 ·exact Int.ediv_nonneg (by omega) (by omega)
 ·have:=Int.ediv_le_self (b:=c.wh (c.F k)) (show 0<=c.wh (k:Int) by omega);omega
theorem zfm(c:Cf)(q:c.ok)(a:Option Addr)(cap:Nat)(k:Nat)(A:k<c.n)(wn:Int)(J:0<=wn/\wn<=100000)(w:G)(e:TS w a c.n c.F c.W c.K):Calls prog 232 #[(cZz c a cap),I k,I wn] w (Rz w (.tuple #[I (c.F k),I (wn*qa c k),I ((wn+1)*qa c k)])):=by
 have x:=q.n4
 obtain⟨S,V⟩:=q.F k A
 obtain⟨a4,a5⟩:=q.wh (t:=(k:Int)) (by omega) (by omega)
 obtain⟨a6,a7⟩:=q.wh S V
 obtain⟨d,v⟩:=Xl q A
 obtain⟨C,D⟩:=J
 have i:T w.1.size w (w.alloc (.cells (aZz c a cap) 89)):=(Q _ _).alloc (E _) _
 have a2:0<=wn*qa c k/\wn*qa c k<=100000000:=⟨Int.mul_nonneg C d,by have:=Int.mul_le_mul D v d (by omega);omega⟩
 have a3:0<=(wn+1)*qa c k/\(wn+1)*qa c k<=100001000:=⟨Int.mul_nonneg (by omega) d,by have:=Int.mul_le_mul (show wn+1<=100001 by omega) v d (by omega);omega⟩
 have m:=fun W y=>ze (ku c.s c.le c.la c.wi c.ke c.qu a c.n cap c.F c.W c.K (k:Int) (by omega) (by omega) x W (e.below (w':=W) y))
 have l:=fun W y=>ze (ku c.s c.le c.la c.wi c.ke c.qu a c.n cap c.F c.W c.K (c.F k) S V x W (e.below (w':=W) y))
 have O:zP c.wi c.W (k:Int)=c.wh (k:Int):=rfl
 have P:zP c.wi c.W (c.F k)=c.wh (c.F k):=rfl
 simp only[O]at m
 simp only[P]at l
 have HM:Hid (c.wh (k:Int)/c.wh (c.F k)=qa c k):=rfl
 have Y:=zp w (.cells (aZz c a cap) 89)
 have qz:=zN w (.cells (aZz c a cap) 89)
 obtain⟨y0,y1,y2,y3,y4,y5,y6,-⟩:=zc Y
 obtain⟨b,L,rfl,a0,r⟩:=e.below i (by omega)
 obtain⟨x0,-,-⟩:=r k A
 have a1:(k:Int)<c.n:=by omega
 have f:=ze i
 have Z:=ze qz
 clear r e i O P Y
 generalize qa c k=M at*
 generalize c.wh (k:Int)=wk at*
 generalize c.wh (c.F k)=wf at*
 go_enter func232,ntmps232
 go_wp2_with fail
 have q1:w.1.size<w.1.size+1:=by omega
 have q2:b<w.1.size+1:=by omega
 generalize(w.alloc (.cells (aZz c (R (U b L)) cap) 89))=X at*
 generalize hN:w.1.size+1=N at*
 have H:Nonempty (xc N X):=xc.some _ _
 have B:=fun(u:xc N X) b o h=>u.cell b o h
 have p:N<=X.1.size:=by rw[ud Z];exact E _
 have j:=ze p
 have g:Hid (w.1.size<=N):=by show w.1.size<=N;omega
 clear p hN
 refine zx N (by kernel_rfl) (by kernel_rfl) ?_
 repeat(go_big_quiet_step (first
  |(go_at_call 237;first|(with_reducible exact Calls.later (ud j) (ud (m _ ((ud f).trans (Below.mono (Subtype.property _) (ud g))))))|(with_reducible exact Calls.later (ud j) (ud (l _ ((ud f).trans (Below.mono (Subtype.property _) (ud g)))))))))
 refine wpQuiet_nil ?_
 rintro⟨w1,z⟩
 clear B H
 dsimp only
 go_wp2_with fail
 go_ret3
 have hm:=ud HM
 rw[hm]
 have r1:wrap64 (wn*M)=wn*M:=by unfold wrap64;omega
 have r2:wrap64 ((wn+1)*M)=(wn+1)*M:=by unfold wrap64;omega
 rw[r1,r2]
 exact⟨rfl,(ud f).trans (z.mono (ud g))⟩
attribute [local go_sem] Oper.semAt_some
def yI(c:Cf)(k:Sg):List Sg:=(Vk c k.t (k.wn*c.wh k.t) c.n).map (fun p=>⟨p.1,k.sr,p.2⟩)
noncomputable def VN (sr:Int) (p:WP):WSg:=zkf ⟨p.1.1,sr,p.1.2⟩
theorem VO{sr:Int}(h:xg sr)(p:WP):(VN sr p).1=⟨p.1.1,sr,p.1.2⟩:=YB ⟨p.2.1,h,p.2.2⟩
structure HR(W:G)(Bp Bk s:Nat)(k:Sg)(c:Cf)(tv:za)(lb gb:Nat):Prop where
 bp:W.1[Bp]?=R (.cells #[(O s)] 90 (0,0))
 bk:W.1[Bk]?=R (.cells #[I k.t,I k.sr,I k.wn] 146 (0,0))
 hd:kY W s c tv lb gb
theorem HR.later{W e:G}{d b s:Nat}{k:Sg}{c:Cf}{tv:za}{lb gb:Nat}(h:HR W d b s k c tv lb gb)(a:T W.1.size W e):HR e d b s k c tv lb gb:=
 ⟨(a.block _ (zd h.bp)).trans h.bp,(a.block _ (zd h.bk)).trans h.bk,h.hd.later a⟩
theorem HR.kx{ex:Nat->Prop}{n m:Nat}{W f:G}{b a s:Nat}{k:Sg}{c:Cf}{tv:za}{lb gb:Nat}(h:HR W b a s k c tv lb gb)(d:KX ex n m W f)(i:b<n/\¬ex b)(j:a<n/\¬ex a)(l:s<n/\¬ex s)(o:∀g,tv.ownBlock=R g->g<n/\¬ex g):HR f b a s k c tv lb gb:=
 ⟨qk d h.bp i.1 i.2,qk d h.bk j.1 j.2,h.hd.kept d.kept (fun e=>e.elim l.2 (by omega)) (fun g p e=>by have:=o g p;exact e.elim this.2 (by omega))⟩
theorem HR.kept{f:Nat->Prop}{W e:G}{b a s:Nat}{k:Sg}{c:Cf}{tv:za}{lb gb:Nat}(h:HR W b a s k c tv lb gb)(d:zh f W e)(i:¬f b)(j:¬f a)(l:¬f s)(m:∀g,tv.ownBlock=R g->¬f g):HR e b a s k c tv lb gb:=
 ⟨d.heap h.bp i,d.heap h.bk j,h.hd.kept d l m⟩
theorem TS.same{A B:G}{a:Option Addr}{n:Nat}{F W K:Nat->Int}(h:TS A a n F W K)(m:A.1.size<=B.1.size)(g:∀b c,a=R (U b c)->B.1[b]?=A.1[b]?):TS B a n F W K:=fun f=>by
 obtain⟨b,c,e,l,j⟩:=h f
 have d:∀o,B.cell? (U b o)=A.cell? (U b o):=fun o=>by unfold World.cell?;rw[g b c e]
 exact⟨b,c,e,by omega,fun i k=>by rw[d,d,d];exact j i k⟩
theorem Vv(s:Nat)(k:Sg)(w:G):
  Calls prog 178 #[(O s),.agg #[I k.t,I k.sr,I k.wn]] w fun e w'=>e=.returned (.func (.func 235) #[] #[(O w.1.size),(O (w.1.size+1))])/\w'=(w.alloc (.cells #[(O s)] 90)).alloc (.cells #[I k.t,I k.sr,I k.wn] 146):=by
 go_enter func178,ntmps178
 go_wp2_with fail
 go_ret
 exact⟨rfl,rfl⟩
structure KY(ex:Nat->Prop)(n m l:Nat)(A B:G):Prop where
 kept:zh (fun k=>ex k\/n<=k) A B
 walk:∀k o,¬ex k->A.1[k]?=R o->o.isWalk=true->B.1[k]?=R o
 high:∀k o,k≠l->m<=k->¬zqg o->A.1[k]?=R o->B.1[k]?=R o
theorem KY.trans{ex:Nat->Prop}{n m l:Nat}{A B C:G}(h:KY ex n m l A B)(k:KY ex n m l B C):KY ex n m l A C:=⟨h.kept.trans k.kept (fun _ _ h=>h),fun i o a b d=>k.walk i o a (h.walk i o a b d) d,fun i o c a hn b=>k.high i o c a hn (h.high i o c a hn b)⟩
theorem KX.y{ex:Nat->Prop}{n m:Nat}{A B:G}(h:KX ex n m A B)(l:Nat):KY ex n m l A B:=⟨h.kept,h.walk,fun k o _=>h.high k o⟩
theorem KY.putObj{ex:Nat->Prop}{n m l:Nat}{W:G}{o:Obj}(d:Obj)(b:n<=l)(h:W.1[l]?=R o)(f:o.isWalk=false):KY ex n m l W (W.putObj l d):=
 ⟨(zh.refl _ _).grown (grownBy_putObj' W l d) (fun k e _=>by cases e;exact .inr b),fun k p g a c=>by
  by_cases e:k=l
  ·subst e;rw[h]at a;cases a;rw[f]at c;cases c
  ·exact(World.putObj_heap_other e).trans a,fun k p b g _ a=>(World.putObj_heap_other b).trans a⟩
theorem zdP{ex:Nat->Prop}{n:Nat}(Bp C s:Nat)(k:Sg)(c:Cf)(hc:c.ok)(tv:za)(lb gb:Nat)(a6: -1<=k.t)(d:k.t<c.n)(aj:0<=k.wn/\k.wn<=100000)(ak:xg k.sr)(w:G)(hn:n<=w.1.size)(hR:HR w Bp C s k c tv lb gb)
  (h1:Bp<n/\¬ex Bp) (h2:C<n/\¬ex C) (h3:s<n/\¬ex s) (h4:∀g,tv.ownBlock=R g->g<n/\¬ex g):
  vZ ex n prog 235 #[(O Bp),(O C)] (fun x:WSg=>#[.agg #[I x.1.t,I x.1.sr,I x.1.wn]]) (fun xs=>xs=((Vk c k.t (k.wn*c.wh k.t) c.n).map Vg).map (VN k.sr)) c.n w:=by
 intro m hm l J Jx M hW aR hJ af hY h0
 have ag:=hR.later hW
 obtain⟨a,cap,rfl⟩:=zS hR.hd.trow
 have aI:=hW.size
 have Z:T M.1.size M (M.alloc (.cells #[.func (.yield l) #[] #[]] 206)):=(Q _ _).alloc (E _) _
 have an:=zp M (.cells #[.func (.yield l) #[] #[]] 206)
 have am:=zN M (.cells #[.func (.yield l) #[] #[]] 206)
 have j:=ag.later Z
 have ad:=zO hJ h0 Z
 have ah:=hW.trans (Z.mono aI)
 have aG:0<=k.wn*c.wh k.t/\k.wn*c.wh k.t<=1000000000:=by
  obtain⟨aT,aH⟩:=hc.wh a6 d
  constructor
  ·exact Int.mul_nonneg (by omega) (by omega)
  ·have:=Int.mul_le_mul (show k.wn<=100000 by omega) aH (by omega) (by omega);omega
 have ap:=ze (VA c hc a cap k.t k.wn a6 d aj _ (TS.of_owns j.hd.trow))
 have a7:=ze (VA c hc a cap k.t k.wn a6 d aj (M.alloc (.cells #[.func (.yield l) #[] #[]] 206)).drew (TS.of_owns j.hd.trow))
 obtain⟨c0,c1,c2,c3,c4,c5,c6,-,-⟩:=j.hd.cells
 have u:=j.hd.lt
 obtain⟨p0,-⟩:=zc j.bp
 obtain⟨k0,-,k2,-⟩:=zc j.bk
 have aE:=zd j.bp
 have ab:=zd j.bk
 have HC:=ze hc
 have ay:=ze j
 have aC:=ze an
 have aA:=ze am
 have av:=ze ad
 have HJ:=ze hJ
 have a8:=ze af
 have HY:=ze hY
 have aa:=ze ah
 have ax:=ze ak
 clear hR ag j an am ad hJ af hY Z ah hc h0 ak
 refine callsIn_wide.2 ((callsIn_wide (n:=7)).1 ?_)
 refine callsIn_of_wp_marks func235 rfl trivial ?_ rfl
 simp only[ntmps235,sZz,Nat.reduceAdd,Nat.reduceSub]
 refine wpIn_wide.2 ?_
 go_wp2_with fail
 generalize(M.alloc (.cells #[.func (.yield l) #[] #[]] 206))=X at*
 go_region_held3 (fun w'=>w'.cell? (U Bp 0)=R (O s)/\w'.cell? (U s 0)=R (I c.s)/\w'.cell? (U s 1)=R (I c.le)/\w'.cell? (U s 2)=R (I c.la)/\w'.cell? (U s 3)=R (I c.wi)/\w'.cell? (U s 4)=R (I c.ke)/\w'.cell? (U s 5)=R (I c.qu)/\w'.cell? (U s 6)=R (.slice a c.n cap)/\w'.cell? (U C 0)=R (I k.t)/\w'.cell? (U C 2)=R (I k.wn)) (go_keep) (first
  |(go_at_call 236;(first|refine(ud ap).mono ?_|refine(ud a7).mono ?_);rintro e H ⟨Bs,rfl,N,ac,i⟩;have d0:=(i.cell (p:=(U Bp 0)) aE).trans p0;have d1:=(i.cell (p:=(U s 0)) u).trans c0;have d2:=(i.cell (p:=(U s 1)) u).trans c1;have d3:=(i.cell (p:=(U s 2)) u).trans c2;have d4:=(i.cell (p:=(U s 3)) u).trans c3;have d5:=(i.cell (p:=(U s 4)) u).trans c4;have d6:=(i.cell (p:=(U s 5)) u).trans c5;have d7:=(i.cell (p:=(U s 6)) u).trans c6;have d8:=(i.cell (p:=(U C 0)) ab).trans k0;have d9:=(i.cell (p:=(U C 2)) ab).trans k2;have aq:=ze N;have L:=ze i;clear N i))
 go_wp2_with fail
 have ao:X.1.size=M.1.size+1:=ud aA
 have P:T X.1.size X H:=⟨(ud L).os,(ud L).tape,(ud L).output,(ud L).size,(ud L).block⟩
 have N:AR H X.1.size Bs c a cap k.t (k.wn*c.wh k.t):=ud aq
 have aK:X.1.size<=Bs:=ac
 have aM:=P.size
 have HV:=ze P
 have v:=ze N
 have aL:=ze ((ud aa).trans (P.mono (ud aa).size))
 have aw:=ze (zO (ud HJ) (ud av) ⟨P.os,P.tape,P.output,P.size,P.block⟩)
 have a9:=ze ((ud ay).later P)
 have aD:=ze ((P.block _ (by omega)).trans (ud aC))
 obtain⟨g,aJ,ai,aP,aQ⟩:=(ud a9).hd.trow.form (by have:=(ud HC).n1;omega)
 have S:a=R (U g 0):=by injection ai
 have aF:=h4 g (by rw[S];rfl)
 have aU:=zd (ud v).b1
 have aV:=zd (ud v).b2
 have aS:m<=H.1.size:=by omega
 have aN:M.1.size<H.1.size:=by omega
 clear d0 d1 d2 d3 d4 d5 d6 d7 d8 d9 c0 c1 c2 c3 c4 c5 c6 p0 k0 k2 ai ac N P
 refine(wpIn_wide (n:=7)).1 ?_
 refine qU (F:=Fence.wide) (n:=7) (m:=0) rfl (by omega) (gf:=264) (lb:=#[(O X.1.size),(O (X.1.size+1)),(O Bs)]) rfl trivial zam
  (zgJ X.1.size Bs c (ud HC) a cap k.t (k.wn*c.wh k.t) aG (KY ex n m (H.1.size+1)) (fun A B hk hA=>⟨hk.high _ _ (by omega) (by omega) (fun⟨_,_,e⟩=>by cases e) hA.b0,hk.high _ _ (by omega) (by omega) (fun⟨_,_,e⟩=>by cases e) hA.b1,hk.high _ _ (by have:=zd (ud v).b2;omega) (by omega) (fun⟨_,_,e⟩=>by cases e) hA.b2,TS.same hA.ts hk.kept.size (fun b aY e=>by rw[S]at e;injection e with e;injection e with e1 e2;subst e1;exact hk.kept.block _ (by have:=hA.ts;obtain⟨b',o',e3,h5,_⟩:=this (by have:=(ud HC).n1;omega);rw[S]at e3;injection e3 with e3;injection e3 with e3 _;rw[e3];exact h5) (fun e=>e.elim aF.2 (by omega)))⟩) (fun A B hk=>hk.kept.size) 0 H (ud v)) (Nat.zero_le _) (fun h k=>h.trans k) (fun W o o' h hc hw=>KY.putObj o' (by omega) h hw) (Q _ _) (fun _=>rfl)
  (fun z W=>J (z.map (VN k.sr)) W/\HR W Bp C s k c (.slice a c.n cap) lb gb/\W.1[M.1.size]?=R (.cells #[.func (.yield l) #[] #[]] 206 (0,0))/\H.1.size<=W.1.size)
  (fun c z W=>c=.ret/\∃q,Jx q W)
  (fun s A B a0 hs V Y=>⟨ud HJ _ A B a0 hs.1 V (fun r e=>⟨by have:=(Y r e).1;omega,(Y r e).2⟩),hs.2.1.kept (f:=fun k=>H.1.size<=k) ⟨V.os,V.tape,V.output,V.size,fun k hk hn=>V.block k hk (fun e=>hn (Y k e.symm).1)⟩ (by have:=h1.1;omega) (by have:=h2.1;omega) (by have:=h3.1;omega) (fun g hh=>by have:=(h4 g hh).1;omega),zu hs.2.2.1 V (fun r e=>(Y r e).2),zb hs.2.2.2 V.size⟩)
  (fun c s A B a0 hs V Y=>⟨hs.1,by obtain⟨q,hq⟩:=hs.2;exact⟨q,ud a8 q A B a0 hq V (fun r e=>⟨by have:=(Y r e).1;omega,(Y r e).2⟩)⟩⟩)
  ⟨ud aw,ud a9,ud aD,E _⟩
  (fun x a' W=>a'={tmps:=#[.func (.yield l) #[] #[],(O Bp),(O C),(O M.1.size),I x.1.1,I x.1.2,(O s),(O s),(O s),(cZz c a cap),(O C),I k.t,.pointer (R (U C 2)),I k.wn,.func (.func 264) #[] #[(O X.1.size),(O (X.1.size+1)),(O Bs)],I x.1.1,I x.1.2,undef,undef,undef,undef,undef,undef,undef,undef],defers:=[]})
  (fun x a' s A B a0 hs V Y=>hs) ?assign ?body ?done ?stop
 case assign=>
  rintro l' z x W K hi hK
  have HK:=ze hK
  have HI:=ze hi
  clear hK hi ao S
  gi_wp2
  exact ud HK _ _ (KeepsFrom.refl _ _) ((KX.refl _ _ _ _).y _) (ud HI) rfl
 case body=>
  rintro l' z x a' W hl ⟨r,Y⟩ ⟨i1,i2,i3,i4⟩ rfl al
  have aO:=zd i2.bk
  have aW:=zd i3
  obtain⟨-,k1,-⟩:=zc i2.bk
  obtain⟨y0,-⟩:=zc i3
  obtain⟨fn,tmps,assign,body,hy,hR⟩:=kW (m':=4) rfl (ud HY (z.map (VN k.sr)) (VN k.sr x) W i1 (by rw[List.length_map];exact al))
  rw[VO (ud ax)]at hy
  dsimp only at hy
  have ar:=ze i2
  have au:=ze i3
  clear i1 i2 i3 Y ao S
  gi_wp2
  refine RoundIn.mono (F:=Fence.wide.inRound l') hR ?_
  rintro e W2 (⟨rfl,ae,d⟩|⟨rfl,a1,d⟩)
  ·have a4:=ze (d.from (q:=H.1.size) (by omega))
   have a5:=ze (d.y (H.1.size+1))
   have az:=ze ((ud ar).kx d h1 h2 h3 h4)
   have aB:=ze (d.high _ _ (by omega) (fun⟨_,_,e⟩=>by cases e) (ud au))
   have aX:=d.kept.size
   have a2:=ze ae
   clear ae d
   gi_wp2
   exact⟨ud a4,ud a5,by rw[List.map_append,List.map_singleton];exact ud a2,ud az,ud aB,by omega⟩
  ·have a4:=ze (d.from (q:=H.1.size) (by omega))
   have a5:=ze (d.y (H.1.size+1))
   have a2:=ze a1
   clear a1 d
   gi_wp2
   exact⟨ud a4,ud a5,rfl,_,ud a2⟩
 case done=>
  rintro D xs W hD hS ⟨i1,-,-,-⟩ hK
  have a3:=ze (OwnFrom.putObj (ud HJ) (.deferred none) i1 (by omega) hK rfl)
  subst hS
  clear i1
  gi_wp2
  refine⟨by simp,.inl ⟨_,_,rfl,run_takeDeferred hK,?_⟩⟩
  exact⟨_,results_none rfl _ _ _,⟨_,rfl⟩,.inl ⟨_,rfl,ud a3⟩⟩
 case stop=>
  rintro D c z W hD hS ⟨rfl,q,hq⟩ hK
  have a3:=ze (OwnFrom.putObj (ud a8) (.deferred none) hq (by omega) hK rfl)
  clear hq
  gi_wp2
  refine⟨by simp,.inl ⟨_,_,rfl,run_takeDeferred hK,?_⟩⟩
  exact⟨_,results_none rfl _ _ _,⟨_,rfl⟩,.inr ⟨_,trivial,ud a3⟩⟩
theorem YU:∀args w,(callFunc 235 args).run prog w=.ok (.enter 235 args) w:=enters_of func235 (by kernel_rfl) rfl
def yR(c:Cf)(a:List (Sg×Unit))(L:LV)(now:Int)(k:Sg):Bool:=(zD a k).isNone&&((stL L k).st==2)&&decide ((k.wn+1)*c.wh k.t<=now-c.la)
theorem JP{w:G}{s:Nat}{c:Cf}{tv:za}{lb gb:Nat}{Gl:List (Sg×Unit)}{L:LV}(h:xE w s c tv lb gb Gl L)(hc:c.ok){J:Nat}{r:List (Sg×Unit)}(D:xe je w J r)(k:Sg)(hk:k.wf)(Z: -1<=k.t)(a0:k.t<c.n)(a1:0<=k.wn/\k.wn<=100000)(now:Int)(C:0<=now/\now<=100000)
  (H y x:Nat) (b1:w.cell? (U H 0)=R (.map (R J))) (b2:w.cell? (U y 0)=R (O s)) (b3:w.cell? (U x 0)=R (I now)) (l1:H<w.1.size) (l2:y<w.1.size) (l3:x<w.1.size):
  Calls prog 174 #[.agg #[I k.t,I k.sr,I k.wn],(O H),(O y),(O x)] w (Rz w (.bool (yR c r L now k))):=by
 obtain⟨a,cap,rfl⟩:=zS h.trow
 have f:=h.lt
 have g:T w.1.size w (w.alloc (.cells #[I k.t,I k.sr,I k.wn] 146)):=(Q _ _).alloc (E _) _
 have y0:=zp w (.cells #[I k.t,I k.sr,I k.wn] 146)
 have yz:=zN w (.cells #[I k.t,I k.sr,I k.wn] 146)
 obtain⟨c0,c1,c2,c3,c4,c5,c6,-,-⟩:=h.cells
 have i:=fun W V=>ze (Zz (h.later (w':=W) V) k hk)
 have z:=fun W V=>ze (K8 c hc a cap k.t k.wn now Z a0 a1 C W ((TS.of_owns h.trow).below (w':=W) V))
 obtain⟨v,hv⟩:∃v,stL L k=v:=⟨_,rfl⟩
 obtain⟨d,Y⟩:∃d,decide ((k.wn+1)*c.wh k.t<=now-c.la)=d:=⟨_,rfl⟩
 have M:Hid (yR c r L now k=((zD r k).isNone&&(v.st==2)&&d)):=by show yR c r L now k=_;unfold yR;rw[hv,Y]
 rw[ud M]
 rw[hv]at i
 rw[Y]at z
 have K:=fun X B=>kt Xe true (D.later (w':=X) B) hk
 clear h D hc hv Y
 cases hg:zD r k
 case' some u=>
  have S:∀X,T w.1.size w X->(Instr.lookup 153 (.map (R J)) (.agg #[I k.t,I k.sr,I k.wn]) true).run prog X=.ok (.tuple #[.agg #[],.bool true]) X:=fun X B=>by have:=K X B;rw[hg]at this;exact this
 case' none=>
  have S:∀X,T w.1.size w X->(Instr.lookup 153 (.map (R J)) (.agg #[I k.t,I k.sr,I k.wn]) true).run prog X=.ok (.tuple #[.agg #[],.bool false]) X:=fun X B=>by have:=K X B;rw[hg]at this;exact this
  cases j:(v.st==2)
  case' false=>
   rw[j]at i
   clear j
  case' true=>
   rw[j]at i
   clear j
   cases d
 all_goals
  have q0:=S _ g
  obtain⟨k0,k1,k2,-⟩:=zc y0
  have m1:=(g.cell (p:=(U H 0)) l1).trans b1
  have q:T (w.1.size+1) (w.alloc (.cells #[I k.t,I k.sr,I k.wn] 146)) ((w.alloc (.cells #[I k.t,I k.sr,I k.wn] 146)).alloc Vi):=(Q _ _).alloc (by rw[yz];omega) _
  have e:T w.1.size w ((w.alloc (.cells #[I k.t,I k.sr,I k.wn] 146)).alloc Vi):=g.trans (q.mono (by omega))
  have F:((w.alloc (.cells #[I k.t,I k.sr,I k.wn] 146)).alloc Vi).1.size=w.1.size+2:=by rw[zN,yz]
  have y2:=(q.block w.1.size (by omega)).trans y0
  obtain⟨z0,z1,z2,-⟩:=zc y2
  have n2:=(e.cell (p:=(U y 0)) l2).trans b2
  have n3:=(e.cell (p:=(U x 0)) l3).trans b3
  have s0:=(e.cell (p:=(U s 0)) f).trans c0
  have s1:=(e.cell (p:=(U s 1)) f).trans c1
  have s2:=(e.cell (p:=(U s 2)) f).trans c2
  have s3:=(e.cell (p:=(U s 3)) f).trans c3
  have s4:=(e.cell (p:=(U s 4)) f).trans c4
  have s5:=(e.cell (p:=(U s 5)) f).trans c5
  have s6:=(e.cell (p:=(U s 6)) f).trans c6
  have l:=ze e
  have P:=ze F
  clear K S g y0 yz b1 b2 b3 q e y2 F c0 c1 c2 c3 c4 c5 c6
  go_enter func174,ntmps174
  go_wp2_with fail
  have r1:w.1.size<w.1.size+2:=by omega
  have r2:y<w.1.size+2:=by omega
  have r3:x<w.1.size+2:=by omega
  have r4:s<w.1.size+2:=by omega
  have m:Hid (w.1.size<=w.1.size+2):=by show w.1.size<=w.1.size+2;omega
  clear k0 k1 k2 m1 q0
  generalize((w.alloc (.cells #[I k.t,I k.sr,I k.wn] 146)).alloc Vi)=X at*
  generalize w.1.size+2=N at*
  have A:Hid (N<=X.1.size):=by show N<=X.1.size;rw[ud P];exact E _
  have a3:Nonempty (xc N X):=xc.some _ _
  have a2:=fun(u:xc N X) b o h=>u.cell b o h
  refine zx N (by kernel_rfl) (by kernel_rfl) ?_
  repeat(go_big_quiet_step (first
   |(go_at_call 175;exact Calls.later (ud A) (ud (i _ ((ud l).trans (Below.mono (Subtype.property _) (ud m))))))
   |(go_at_call 117;exact Calls.later (ud A) (ud (z _ ((ud l).trans (Below.mono (Subtype.property _) (ud m))))))))
  refine wpQuiet_nil ?_
  rintro⟨w1,g⟩
  clear a2 a3
  dsimp only
  go_wp2_with fail
  go_ret
  exact⟨rfl,(ud l).trans (g.mono (ud m))⟩
noncomputable def kB (c:Cf) (k:Sg):List WSg:=((Vk c k.t (k.wn*c.wh k.t) c.n).map Vg).map (VN k.sr)
theorem zaL(c:Cf)(k:Sg):(kB c k).length<=c.n:=by unfold kB;rw[List.length_map,List.length_map];exact zdw _ _ _ _
noncomputable def Za (c:Cf) (L:LV) (k:Sg):Bool:=((((kB c k).filter (fun x=>(stL L x.1).st==2)).length:Int)==0)
noncomputable def yQ (c:Cf) (L:LV) (now:Int) (k:Sg):Bool:=!((stL L k).st==2)&&decide ((k.wn+1)*c.wh k.t+c.keep k.t<=now)&&Za c L k
theorem ziJ{w:G}{base:Nat}{e:TypeId}{size:Nat}{v:za}{n:Nat}{xs:List za}(h:w.ownsRow base e size v n xs):∀k,v.ownBlock=R k->k<w.1.size:=fun k c=>by obtain⟨a,b⟩:=zH h c;exact zd b
theorem Y7:∀args w,(callFunc 175 args).run prog w=.ok (.enter 175 args) w:=enters_of func175 (by kernel_rfl) rfl
theorem zfh{w:G}{s:Nat}{c:Cf}{tv:za}{lb gb:Nat}{Gl:List (Sg×Unit)}{L:LV}(h:xE w s c tv lb gb Gl L)(o:c.ok)(k:Sg)(v:k.wf)(i: -1<=k.t)(j:k.t<c.n)(l:0<=k.wn/\k.wn<=100000):
  Calls prog 119 #[.func (.func 235) #[] #[(O w.1.size),(O (w.1.size+1))],.func (.func 175) #[(O s)] #[]] ((w.alloc (.cells #[(O s)] 90)).alloc (.cells #[I k.t,I k.sr,I k.wn] 146)) fun e w'=>e=.returned (I ((kB c k).filter (fun x=>(stL L x.1).st==2)).length)/\T ((w.alloc (.cells #[(O s)] 90)).alloc (.cells #[I k.t,I k.sr,I k.wn] 146)).1.size ((w.alloc (.cells #[(O s)] 90)).alloc (.cells #[I k.t,I k.sr,I k.wn] 146)) w':=by
 obtain⟨z,A,d,b⟩:=box2 w (.cells #[(O s)] 90) (.cells #[I k.t,I k.sr,I k.wn] 146)
 have m:=h.later d
 have y:=h.lt
 have a:∀g,tv.ownBlock=R g->g<w.1.size:=fun g f=>ziJ h.trow g f
 refine(zhu (fun x:WSg=>x.1) 235 _ YU 175 #[(O s)] #[] Y7 (fun x=>(stL L x.1).st==2) _ (fun x W q=>Zz (m.later q) x.1 x.2)
  (zdP (ex:=fun _=>False) w.1.size (w.1.size+1) s k c o tv lb gb i j l v.2.1 _ (E _) ⟨z,A,m.hd⟩ ⟨by rw[b];omega,fun e=>e⟩ ⟨by rw[b];omega,fun e=>e⟩ ⟨by rw[b];omega,fun e=>e⟩ (fun g f=>⟨by have:=a g f;rw[b];omega,fun e=>e⟩))
  (fun xs e=>by rw[e];have:=zaL c k;have:=o.n4;unfold kB at*;omega)).mono ?_
 rintro e w' ⟨xs,p,u,r⟩
 subst p
 exact⟨u,r⟩
theorem Yj{w:G}{s:Nat}{c:Cf}{tv:za}{lb gb:Nat}{Gl:List (Sg×Unit)}{L:LV}(h:xE w s c tv lb gb Gl L)(hc:c.ok)(k:Sg)(hk:k.wf)(bk: -1<=k.t)(bl:k.t<c.n)(aP:0<=k.wn/\k.wn<=100000)(now:Int)(bm:0<=now/\now<=100000)
  (Bp Z:Nat) (b2:w.cell? (U Bp 0)=R (O s)) (b3:w.cell? (U Z 0)=R (I now)) (l2:Bp<w.1.size) (l3:Z<w.1.size):
  Calls prog 176 #[.agg #[I k.t,I k.sr,I k.wn],(O Bp),(O Z)] w (Rz w (.bool (yQ c L now k))):=by
 obtain⟨a,cap,rfl⟩:=zS h.trow
 have K:=h.lt
 have j:T w.1.size w (w.alloc (.cells #[I k.t,I k.sr,I k.wn] 146)):=(Q _ _).alloc (E _) _
 have y0:=zp w (.cells #[I k.t,I k.sr,I k.wn] 146)
 have yz:=zN w (.cells #[I k.t,I k.sr,I k.wn] 146)
 obtain⟨c0,c1,c2,c3,c4,c5,c6,-,-⟩:=h.cells
 have D:=fun W hW=>ze (Zz (h.later (w':=W) hW) k hk)
 have Y:=fun W hW=>ze (zaV c hc a cap k.t k.wn bk bl aP W ((TS.of_owns h.trow).below (w':=W) hW))
 have aJ:=fun W=>ze (Vv s k W)
 have ae:=fun W hW=>ze (zfh (h.later (w':=W) hW) hc k hk bk bl aP)
 obtain⟨v,hv⟩:∃v,stL L k=v:=⟨_,rfl⟩
 obtain⟨u,hu⟩:∃u,(k.wn+1)*c.wh k.t+c.keep k.t=u:=⟨_,rfl⟩
 obtain⟨q,hq⟩:∃q:Nat,((kB c k).filter (fun x=>(stL L x.1).st==2)).length=q:=⟨_,rfl⟩
 have bp:Hid (yQ c L now k=(!(v.st==2)&&decide (u<=now)&&((q:Int)==0))):=by show yQ c L now k=_;unfold yQ Za;rw[hv,hu,hq]
 rw[ud bp]
 rw[hv]at D
 rw[hu]at Y
 rw[hq]at ae
 have ba:=(j.cell (p:=(U Bp 0)) l2).trans b2
 have bb:=(j.cell (p:=(U Z 0)) l3).trans b3
 have bc:=(j.cell (p:=(U s 0)) K).trans c0
 have bd:=(j.cell (p:=(U s 1)) K).trans c1
 have be:=(j.cell (p:=(U s 2)) K).trans c2
 have bf:=(j.cell (p:=(U s 3)) K).trans c3
 have bg:=(j.cell (p:=(U s 4)) K).trans c4
 have bh:=(j.cell (p:=(U s 5)) K).trans c5
 have bi:=(j.cell (p:=(U s 6)) K).trans c6
 obtain⟨bj,aG,aH,-⟩:=zc y0
 have y:s<(w.alloc (.cells #[I k.t,I k.sr,I k.wn] 146)).1.size:=by rw[yz];omega
 have ac:Bp<(w.alloc (.cells #[I k.t,I k.sr,I k.wn] 146)).1.size:=by rw[yz];omega
 have ad:Z<(w.alloc (.cells #[I k.t,I k.sr,I k.wn] 146)).1.size:=by rw[yz];omega
 have J:w.1.size<(w.alloc (.cells #[I k.t,I k.sr,I k.wn] 146)).1.size:=by rw[yz];omega
 have C:=ze j
 have af:=D _ j
 have M:=D (w.alloc (.cells #[I k.t,I k.sr,I k.wn] 146)).drew j.drew
 clear h hc hv hu hq b2 b3 j y0 yz c0 c1 c2 c3 c4 c5 c6 aP hk bm
 cases ag:(v.st==2)with
 |true=>
  rw[ag]at D
  clear ag af M
  have aM:Hid ((w.alloc (.cells #[I k.t,I k.sr,I k.wn] 146)).1.size=w.1.size+1):=zN w _
  go_enter func176,ntmps176
  go_wp2_with fail
  have r1:w.1.size<w.1.size+1:=by omega
  have r2:Bp<w.1.size+1:=by omega
  have r3:Z<w.1.size+1:=by omega
  have r4:s<w.1.size+1:=by omega
  have H:Hid (w.1.size<=w.1.size+1):=by show w.1.size<=w.1.size+1;omega
  clear y ac ad J
  generalize(w.alloc (.cells #[I k.t,I k.sr,I k.wn] 146))=X at*
  generalize w.1.size+1=N at*
  have a1:Hid (N<=X.1.size):=by show N<=X.1.size;rw[ud aM];exact E _
  have aR:Nonempty (xc N X):=xc.some _ _
  have aQ:=fun(u:xc N X) b o h=>u.cell b o h
  refine zx N (by kernel_rfl) (by kernel_rfl) ?_
  repeat(go_big_quiet_step (first
   |(go_at_call 175;exact Calls.later (ud a1) (ud (D _ ((ud C).trans (Below.mono (Subtype.property _) (ud H))))))
   |(go_at_call 177;exact Calls.later (ud a1) (ud (Y _ ((ud C).trans (Below.mono (Subtype.property _) (ud H))))))))
  refine wpQuiet_nil ?_
  rintro⟨w1,j⟩
  clear aQ aR
  dsimp only
  go_wp2_with fail
  go_ret
  exact⟨rfl,(ud C).trans (j.mono (ud H))⟩
 |false=>
  rw[ag]at D af M
  clear ag
  by_cases bn:u<=now
  ·have hd:decide (u<=now)=true:=by simpa using bn
   rw[hd]
   clear D
   go_enter func176,ntmps176
   go_wp2_with fail
   generalize(w.alloc (.cells #[I k.t,I k.sr,I k.wn] 146))=X at*
   go_region_held3 (fun w'=>w'.cell? (U Bp 0)=R (O s)/\w'.cell? (U Z 0)=R (I now)/\w'.cell? (U s 0)=R (I c.s)/\w'.cell? (U s 1)=R (I c.le)/\w'.cell? (U s 2)=R (I c.la)/\w'.cell? (U s 3)=R (I c.wi)/\w'.cell? (U s 4)=R (I c.ke)/\w'.cell? (U s 5)=R (I c.qu)/\w'.cell? (U s 6)=R (.slice a c.n cap)/\w'.cell? (U w.1.size 0)=R (I k.t)/\w'.cell? (U w.1.size 1)=R (I k.sr)/\w'.cell? (U w.1.size 2)=R (I k.wn)) (go_keep) (first
    |(go_at_call 175;(first|refine(ud af).mono ?_|refine(ud M).mono ?_);rintro e V1 ⟨rfl,z⟩;have d:T X.1.size X V1:=⟨z.os,z.tape,z.output,z.size,z.block⟩;have a6:=d.size;have l:=z9 y a6;have a4:=z9 ac a6;have a5:=z9 ad a6;have F:=z9 J a6;have ai:=(d.cell (p:=(U Bp 0)) ac).trans ba;have aj:=(d.cell (p:=(U Z 0)) ad).trans bb;have ak:=(d.cell (p:=(U s 0)) y).trans bc;have al:=(d.cell (p:=(U s 1)) y).trans bd;have am:=(d.cell (p:=(U s 2)) y).trans be;have an:=(d.cell (p:=(U s 3)) y).trans bf;have ao:=(d.cell (p:=(U s 4)) y).trans bg;have ap:=(d.cell (p:=(U s 5)) y).trans bh;have aq:=(d.cell (p:=(U s 6)) y).trans bi;have ar:=(d.cell (p:=(U w.1.size 0)) J).trans bj;have a2:=(d.cell (p:=(U w.1.size 1)) J).trans aG;have a3:=(d.cell (p:=(U w.1.size 2)) J).trans aH;have S:=(ud C).trans (d.mono (ud C).size);have aU:=Y V1 S;have aK:=Y V1.drew S.drew;have ah:=ze S;clear z d S a6 Y ba bb bc bd be bf bg bh bi bj aG aH y ac ad J)
    |(go_at_call 177;(first|refine(ud aU).mono ?_|refine(ud aK).mono ?_);rintro e V2 ⟨rfl,A⟩;have f:T V1.1.size V1 V2:=⟨A.os,A.tape,A.output,A.size,A.block⟩;have a9:=f.size;have m:=z9 l a9;have aE:=z9 a4 a9;have aF:=z9 a5 a9;have P:=z9 F a9;have au:=(f.cell (p:=(U Bp 0)) a4).trans ai;have av:=(f.cell (p:=(U Z 0)) a5).trans aj;have aw:=(f.cell (p:=(U s 0)) l).trans ak;have ax:=(f.cell (p:=(U s 1)) l).trans al;have ay:=(f.cell (p:=(U s 2)) l).trans am;have az:=(f.cell (p:=(U s 3)) l).trans an;have aA:=(f.cell (p:=(U s 4)) l).trans ao;have aB:=(f.cell (p:=(U s 5)) l).trans ap;have aC:=(f.cell (p:=(U s 6)) l).trans aq;have aD:=(f.cell (p:=(U w.1.size 0)) F).trans ar;have a7:=(f.cell (p:=(U w.1.size 1)) F).trans a2;have a8:=(f.cell (p:=(U w.1.size 2)) F).trans a3;have V:=(ud ah).trans (f.mono (ud ah).size);have aV:=aJ V2;have aL:=aJ V2.drew;have aT:=ae V2 V;have aI:=ae V2.drew V.drew;have a0:=ze V;clear A f V a9 ae aJ ai aj ak al am an ao ap aq ar a2 a3 l a4 a5 F)
    |(go_at_call 178;(first|refine(ud aV).mono ?_|refine(ud aL).mono ?_);rintro e V3 ⟨rfl,rfl⟩;obtain⟨-,-,g,-⟩:=box2 V2 (.cells #[(O s)] 90) (.cells #[I k.t,I k.sr,I k.wn] 146);have ab:=g.size;have r:=z9 m ab;have b8:=z9 aE ab;have b9:=z9 aF ab;have aa:=z9 P ab;have aW:=(g.cell (p:=(U Bp 0)) aE).trans au;have aX:=(g.cell (p:=(U Z 0)) aF).trans av;have aY:=(g.cell (p:=(U s 0)) m).trans aw;have aZ:=(g.cell (p:=(U s 1)) m).trans ax;have b0:=(g.cell (p:=(U s 2)) m).trans ay;have b1:=(g.cell (p:=(U s 3)) m).trans az;have b4:=(g.cell (p:=(U s 4)) m).trans aA;have b5:=(g.cell (p:=(U s 5)) m).trans aB;have b6:=(g.cell (p:=(U s 6)) m).trans aC;have b7:=(g.cell (p:=(U w.1.size 0)) P).trans aD;have aN:=(g.cell (p:=(U w.1.size 1)) P).trans a7;have aO:=(g.cell (p:=(U w.1.size 2)) P).trans a8;have aS:=ze g;clear ab g au av aw ax ay az aA aB aC aD a7 a8)
    |(go_at_call 119;(first|refine(ud aT).mono ?_|refine(ud aI).mono ?_);rintro e V4 ⟨rfl,B⟩;have i:T ((V2.alloc (.cells #[(O s)] 90)).alloc (.cells #[I k.t,I k.sr,I k.wn] 146)).1.size ((V2.alloc (.cells #[(O s)] 90)).alloc (.cells #[I k.t,I k.sr,I k.wn] 146)) V4:=⟨B.os,B.tape,B.output,B.size,B.block⟩;have bs:=(i.cell (p:=(U Bp 0)) b8).trans aW;have bt:=(i.cell (p:=(U Z 0)) b9).trans aX;have bu:=(i.cell (p:=(U s 0)) r).trans aY;have bv:=(i.cell (p:=(U s 1)) r).trans aZ;have bw:=(i.cell (p:=(U s 2)) r).trans b0;have bx:=(i.cell (p:=(U s 3)) r).trans b1;have bz:=(i.cell (p:=(U s 4)) r).trans b4;have bA:=(i.cell (p:=(U s 5)) r).trans b5;have bB:=(i.cell (p:=(U s 6)) r).trans b6;have bC:=(i.cell (p:=(U w.1.size 0)) aa).trans b7;have bq:=(i.cell (p:=(U w.1.size 1)) aa).trans aN;have br:=(i.cell (p:=(U w.1.size 2)) aa).trans aO;have bo:=ze i;clear B i))
   all_goals(go_wp2_with fail)
   all_goals go_ret
   all_goals(exact⟨rfl,((ud a0).trans ((ud aS).mono (ud a0).size)).trans ((ud bo).mono (zb (ud a0).size (ud aS).size))⟩)
  ·have hd:decide (u<=now)=false:=by simpa using bn
   rw[hd]
   clear af M
   have aM:Hid ((w.alloc (.cells #[I k.t,I k.sr,I k.wn] 146)).1.size=w.1.size+1):=zN w _
   go_enter func176,ntmps176
   go_wp2_with fail
   have r1:w.1.size<w.1.size+1:=by omega
   have r2:Bp<w.1.size+1:=by omega
   have r3:Z<w.1.size+1:=by omega
   have r4:s<w.1.size+1:=by omega
   have H:Hid (w.1.size<=w.1.size+1):=by show w.1.size<=w.1.size+1;omega
   clear y ac ad J
   generalize(w.alloc (.cells #[I k.t,I k.sr,I k.wn] 146))=X at*
   generalize w.1.size+1=N at*
   have a1:Hid (N<=X.1.size):=by show N<=X.1.size;rw[ud aM];exact E _
   have aR:Nonempty (xc N X):=xc.some _ _
   have aQ:=fun(u:xc N X) b o h=>u.cell b o h
   refine zx N (by kernel_rfl) (by kernel_rfl) ?_
   repeat(go_big_quiet_step (first
    |(go_at_call 175;exact Calls.later (ud a1) (ud (D _ ((ud C).trans (Below.mono (Subtype.property _) (ud H))))))
    |(go_at_call 177;exact Calls.later (ud a1) (ud (Y _ ((ud C).trans (Below.mono (Subtype.property _) (ud H))))))))
   refine wpQuiet_nil ?_
   rintro⟨w1,j⟩
   clear aQ aR
   dsimp only
   go_wp2_with fail
   go_ret
   exact⟨rfl,(ud C).trans (j.mono (ud H))⟩
attribute [local go_sem] Oper.semAt_some
def inR(c:Cf)(s:Sg):Prop:=s.wf/\ -1<=s.t/\s.t<c.n/\0<=s.wn/\s.wn<=100000
abbrev RSg(c:Cf):={s:Sg//inR c s}
theorem zkT(c:Cf):inR c ⟨-1,0,0⟩:=⟨by refine⟨?_,?_,?_⟩<;>(unfold xg;simp),by simp,by show(-1:Int)<c.n;omega,by simp,by simp⟩
noncomputable def zfO (c:Cf) (s:Sg):RSg c:=by classical exact if h:inR c s then⟨s,h⟩else⟨⟨-1,0,0⟩,zkT c⟩
theorem kL{c:Cf}{s:Sg}(h:inR c s):(zfO c s).1=s:=by unfold zfO;rw[dif_pos h]
theorem jg{c:Cf}(g:c.ok){k:Sg}(a:inR c k)(x:Sg):x∈(kB c k).map (·.1)↔x∈yI c k:=by
 have d:0<=k.wn*c.wh k.t/\k.wn*c.wh k.t<=1000000000:=by
  obtain⟨l,f⟩:=g.wh a.2.1 a.2.2.1
  have m:=a.2.2.2
  constructor
  ·exact Int.mul_nonneg (by omega) (by omega)
  ·have:=Int.mul_le_mul (show k.wn<=100000 by omega) f (by omega) (by omega);omega
 have e:(kB c k).map (·.1)=yI c k:=by
  unfold kB yI
  rw[List.map_map,List.map_map]
  apply List.map_congr_left
  intro p h
  unfold Vk at h
  obtain⟨i,j,rfl⟩:=List.mem_map.1 h
  have b:i<c.n:=by have:=(List.mem_filter.1 j).1;simpa using this
  simp only[Function.comp]
  rw[VO a.1.2.1,zbS (zgI g d b)]
 rw[e]
theorem zpp{X:G}{a:Nat}{b:List (Sg×Unit)}(h:xe je X a b)(c:b.length<maxLen){s:Sg}(d:s.wf):
  ∃o,(Instr.mapUpdate 153 (.map (R a)) (.agg #[I s.t,I s.sr,I s.wn]) (.agg #[])).run prog X=.ok () (setBlock X a o)/\xe je (setBlock X a o) a (xZ b s ())/\zh (fun k=>k=a) X (setBlock X a o)/\o.isCells=false:=
 jr Xe h c d ()
theorem zmx(w:G)(a b c:Obj):(((w.alloc a).alloc b).alloc c).1[w.1.size]?=R a/\(((w.alloc a).alloc b).alloc c).1[w.1.size+1]?=R b/\(((w.alloc a).alloc b).alloc c).1[w.1.size+2]?=R c/\T w.1.size w (((w.alloc a).alloc b).alloc c)/\(((w.alloc a).alloc b).alloc c).1.size=w.1.size+3:=by
 obtain⟨e,f,g,d⟩:=box2 w a b
 refine⟨(Below.heap_alloc _ _ _ (by rw[d];omega)).trans e,(Below.heap_alloc _ _ _ (by rw[d];omega)).trans f,?_,g.alloc (by rw[d];omega) _,by simp⟩
 have:=zp ((w.alloc a).alloc b) c
 rw[d]at this;exact this
theorem Zw{n m b:Nat}{W c:G}(h:zh (fun k=>k=b) W c)(f:b<m):KX (fun k=>k=b) n m W c:=
 ⟨h.mono (fun k _ e=> .inl e),fun k o d a _=>h.heap a d,fun k o d _ a=>h.heap a (by omega)⟩
theorem Yb.deep{α:Type}{n n':Nat}{P:Program}{g:Nat}{lb:Array za}{encs:α->Array za}{Kp:G->G->Prop}{S c:List α->Prop}{N m:Nat}{w:G}(h:Yb Fence.wide n P g lb encs Kp S c N m w):Yb Fence.wide n' P g lb encs Kp S c N m w:=
 fun l J d W i o f a j e=>callsIn_wide.2 (callsIn_wide.1 (h l J d W i o f a (fun b x V hv k=>kW rfl (j b x V hv k)) e))
theorem Xj{B b:Nat}{W a:G}(h:zh (fun k=>k=b) W a)(d:b<B):KeepsFrom B W a:=⟨h.size,fun k o e c _=>h.heap c (by omega)⟩
theorem xE.kx{ex:Nat->Prop}{n m:Nat}{W a:G}{s:Nat}{c:Cf}{tv:za}{lb gb:Nat}{Gl:List (Sg×Unit)}{L:LV}(h:xE W s c tv lb gb Gl L)(f:KX ex n m W a)(b:∀k,jJ s tv lb gb k->k<n/\¬ex k):xE a s c tv lb gb Gl L:=
 h.kept f.kept (fun k d e=>by have:=b k d;exact e.elim this.2 (by omega))
theorem xE.foot_lt{W:G}{s:Nat}{c:Cf}{tv:za}{lb gb:Nat}{Gl:List (Sg×Unit)}{L:LV}(h:xE W s c tv lb gb Gl L):∀k,jJ s tv lb gb k->k<W.1.size:=fun k a=>by
 rcases a with rfl|a|rfl|rfl
 ·exact h.lt
 ·exact ziJ h.trow k a
 ·exact h.live.lt
 ·exact h.gone.lt
theorem zim{ex:Nat->Prop}{n m c m2:Nat}{V W:G}(h:KX ex c m2 V W)(hn:n<=c)(d:V.1.size<=c)(b:∀k,ex k->k<m):KX ex n m V W:=
 ⟨h.kept.mono (fun k _ e=>e.imp id (fun e=>by omega)),h.walk,fun k o f _ a=>(h.low (by have:=zd a;omega) (fun e=>by have:=b k e;omega) (zd a)).trans a⟩
theorem zcf{w:G}{s:Nat}{c:Cf}{tv:za}{lb gb:Nat}{Gl:List (Sg×Unit)}{L:LV}(h:xE w s c tv lb gb Gl L)(hc:c.ok)(hL:∀p∈L,inR c p.1)(bH:L.length<=2000):
  Calls prog 172 #[(O s)] w fun e w'=>∃ob C,e=.returned (.map (R ob))/\xe je w' ob C/\(∀x,x∈zj C↔∃k,k∈zn L/\(stL L k).st=2/\x∈yI c k)/\w.1.size<=ob/\T w.1.size w w':=by
 have bz:=h.lt
 obtain⟨y0,y1,y2,aw,yz⟩:=zmx w (.cells #[(O s)] 90) (.map #[] 0) (.cells #[.map (R (w.1.size+1))] 153)
 obtain⟨-,-,-,-,-,-,-,c7,-⟩:=h.cells
 have ar:=fun W=>ze (Jl lb W)
 have av:=fun gf bE W=>ze (KI gf bE 175 #[(O s)] #[] W)
 obtain⟨p0,-⟩:=zc y0
 have x7:=(aw.cell (p:=(U s 7)) bz).trans c7
 have az:w.1.size<(((w.alloc (.cells #[(O s)] 90)).alloc (.map #[] 0)).alloc (.cells #[.map (R (w.1.size+1))] 153)).1.size:=by rw[yz];omega
 have aB:s<(((w.alloc (.cells #[(O s)] 90)).alloc (.map #[] 0)).alloc (.cells #[.map (R (w.1.size+1))] 153)).1.size:=by rw[yz];omega
 have H:=ze h
 have Y0:=ze y0
 have Y1:=ze y1
 have Y2:=ze y2
 have YZ:=ze yz
 have b5:=ze aw
 have HC:=ze hc
 have HL:=ze hL
 clear h y0 y1 y2 yz aw hc hL c7
 refine(callsIn_wide (n:=7)).1 ?_
 refine callsIn_of_wp_marks func172 rfl trivial ?_ rfl
 simp only[ntmps172,sZz,Nat.reduceAdd,Nat.reduceSub]
 refine wpIn_wide.2 ?_
 have bQ:= @run_makeMap prog
 go_wp2_with fail
 generalize(((w.alloc (.cells #[(O s)] 90)).alloc (.map #[] 0)).alloc (.cells #[.map (R (w.1.size+1))] 153))=X at*
 go_region_held3 (fun w'=>w'.cell? (U w.1.size 0)=R (O s)/\w'.cell? (U s 7)=R (.map (R lb))) (go_keep) (first
  |(go_at_call 173;(first|refine(ud (ar X)).mono ?_|refine(ud (ar X.drew)).mono ?_);rintro e b ⟨rfl,ai⟩;have S:T X.1.size X b:=(by rw[ai];first|exact(Q _ _).alloc (E _) _|exact(Q X.1.size X).drew.alloc (E _) _);have aW:b.1.size=X.1.size+1:=(by rw[ai];exact zN _ _);have aP:b.1[X.1.size]?=R (.cells #[.map (R lb)] 152 (0,0)):=(by rw[ai];exact zp _ _);have p1:=(S.cell (p:=(U w.1.size 0)) az).trans p0;have b0:=(S.cell (p:=(U s 7)) aB).trans x7;have an:=z9 az S.size;have ao:=z9 aB S.size;have af:=ze S;have br:=ze aW;have bf:=ze aP;clear ai S aW aP)
  |(go_at_call 124;(first|refine(ud (av _ _ b)).mono ?_|refine(ud (av _ _ b.drew)).mono ?_);rintro e a ⟨rfl,aN⟩;have ad:a.1[b.1.size]?=R (.cells #[.func (.func 233) #[] #[(O X.1.size)]] 199 (0,0))/\a.1[b.1.size+1]?=R (.cells #[.func (.func 175) #[(O s)] #[]] 206 (0,0))/\T b.1.size b a/\a.1.size=b.1.size+2:=(by rw[aN];first|exact box2 b _ _|exact(by obtain⟨a1,a2,a3,a4⟩:=box2 b.drew (.cells #[.func (.func 233) #[] #[(O X.1.size)]] 199) (.cells #[.func (.func 175) #[(O s)] #[]] 206);exact⟨a1,a2,⟨a3.os,a3.tape,a3.output,a3.size,a3.block⟩,a4⟩));obtain⟨ax,aO,aj,aX⟩:=ad;have p2:=(aj.cell (p:=(U w.1.size 0)) an).trans p1;have bF:=(aj.cell (p:=(U s 7)) ao).trans b0;have bh:=ze ax;have ba:=ze aO;have ag:=ze aj;have bs:=ze aX;clear aN ax aO aj aX))
 all_goals
  go_wp2_with fail
  have e0:X.1.size=w.1.size+3:=ud YZ
  have e1:b.1.size=w.1.size+4:=by rw[ud br,e0]
  have e2:a.1.size=w.1.size+6:=by rw[ud bs,e1]
  have j:T X.1.size X a:=(ud af).trans ((ud ag).mono (ud af).size)
  have ad:T w.1.size w a:=(ud b5).trans (j.mono (by omega))
  have f:=(ud H).later ad
  have ak:=(ud H).foot_lt
  have aM:=(j.block _ (by omega)).trans (ud Y0)
  have aK:=(j.block _ (by omega)).trans (ud Y1)
  have aL:=(j.block _ (by omega)).trans (ud Y2)
  have aS:=((ud ag).block _ (by omega)).trans (ud bf)
  have a6:xe je a (w.1.size+1) []:=⟨#[],0,aK,⟨rfl,by simp,by simp,by simp,by simp[zj],by simp⟩⟩
  have a9:=zcw (fun x:RSg c=>x.1) (zfO c) (ex:=fun k=>k=w.1.size+1) (n:=w.1.size+6) X.1.size lb L (fun p hp=>kL (ud HL p hp)) a (by have:=ak lb (.inr (.inr (.inl rfl)));omega) (by omega) (by rw[xH aS];rfl) (qA.1 f.live)
  have aa:=Zq (fun x:RSg c=>x.1) 233 #[(O X.1.size)] zco 175 #[(O s)] #[] Y7 (fun x=>(stL L x.1).st==2) b.1.size (b.1.size+1) a (by omega) ⟨by omega,by omega⟩ ⟨by omega,by omega⟩ (ud bh) (ud ba)
   (fun x W ⟨m,Y⟩=>Zz (f.kx Y (fun k hh=>by have:=ak k hh;constructor<;>omega)) x.1 x.2.1) a9
  have bp:=ze aa
  have bK:=ze e0
  have bL:=ze e1
  have i:=ze e2
  have aG:=ze f
  have bn:=ze aM
  have aD:=ze aL
  have bi:=ze a6
  have ah:=ze ak
  have bq:=ze ad
  have bb:=fun(x:RSg c) W=>ze (Vv s x.1 W)
  clear a9 aa e0 e1 e2 f aM aL aK a6 ak ad j aS p2 bF p1 b0 p0 x7 az aB an ao ar av
  refine(wpIn_wide (n:=7)).1 ?_
  refine qU (F:=Fence.wide) (n:=7) rfl (by omega) (gf:=194) (lb:=#[(O b.1.size),(O (b.1.size+1))]) rfl trivial KH (ud bp (a.1.size+2) (by omega)) (E _) (fun h k=>h.trans k) (fun W o o' h hc hw=>KX.putObj o' (by have:=ud i;omega) (by omega) h hw) (Q _ _) (fun _=>rfl)
   (fun u W=>(∃C,xe je W (w.1.size+1) C/\(∀x,x∈zj C↔∃k∈u,x∈yI c k.1)/\C.length<=4*u.length)/\KX (fun k=>k=w.1.size+1) (w.1.size+6) (a.1.size+2) a W)
   (fun _ _ _=>False)
   (fun s A B ae hs hg hr=>⟨by obtain⟨C,P,b2⟩:=hs.1;exact⟨C,P.same (hg.block _ P.lt (fun e=>by have:=(hr _ e.symm).1;have:=ud i;omega)),b2⟩,KX.own (β:=Unit) (q:=a.1.size) (E _) () A B ae hs.2 hg hr⟩)
   (fun _ _ _ _ _ hs _ _=>hs)
   ⟨⟨[],ud bi,fun x=>by simp[zj],by simp⟩,KX.refl _ _ _ _⟩
   (fun x a' W=>∃Bx,a.1.size<=Bx/\W.1[Bx]?=R (.cells #[I x.1.t,I x.1.sr,I x.1.wn] 146 (0,0))/\a'={tmps:=#[(O s),(O w.1.size),.map none,(O (w.1.size+1+1)),(O Bx),undef,.map (R (w.1.size+1)),(O s),(O s),.pointer (R (U s 7)),.map (R lb),.func (.func 233) #[] #[(O X.1.size)],(O s),.func (.func 175) #[(O s)] #[],.func (.func 194) #[] #[(O b.1.size),(O (b.1.size+1))],.agg #[I x.1.t,I x.1.sr,I x.1.wn],undef,undef,undef,undef,undef,undef,undef,undef],defers:=[]})
   (fun x a' s A B ae hs hg hr=>by
    obtain⟨Bx,h1,h2,h3⟩:=hs
    exact⟨Bx,h1,zu h2 hg (fun r e=>(hr r e).2),h3⟩) ?assign ?body ?done ?stop
  case assign=>
   rintro l u x W K ⟨⟨C,P,b2⟩,i2⟩ hK
   have HK:=ze hK
   have aY:=i2.kept.size
   clear hK
   gi_wp2
   have d:=(Q W.1.size W).alloc (E _) (.cells #[I x.1.t,I x.1.sr,I x.1.wn] 146)
   refine ud HK _ _ (zk d) (KX.of_below d) ⟨⟨C,P.later d,b2⟩,i2.trans (KX.of_below d)⟩ ⟨W.1.size,aY,zp _ _,rfl⟩
  case body=>
   rintro l u x a' W hl ⟨r,hr⟩ ⟨⟨C,P,b2,b3⟩,i2⟩ ⟨Bx,aJ,hx,rfl⟩ bP
   have aY:=i2.kept.size
   have e2:a.1.size=w.1.size+6:=ud i
   have aA:=qk i2 (ud bn) (by omega) (by omega)
   have Z:=qk i2 (ud aD) (by omega) (by omega)
   have ab:=(ud aG).kx i2 (fun k hh=>by have:=ud ah k hh;constructor<;>omega)
   obtain⟨sc,-⟩:=zc aA
   obtain⟨bB,bC,bD,-⟩:=zc hx
   have bN:=zd hx
   have bR:=zd aA
   obtain⟨v0,v1,vb,vz⟩:=box2 W (.cells #[(O s)] 90) (.cells #[I x.1.t,I x.1.sr,I x.1.wn] 146)
   have bx:=zd hr
   have aE:=ze ((vb.block l bx).trans hr)
   have aH:=ze v0
   have aI:=ze v1
   have M:=ze vb
   have a5:=ze vz
   have bl:=ze Z
   have aF:=ze ab
   have bd:=ze i2
   have b7:=ze P
   have b6:=ze b2
   have b8:=ze b3
   have bc:=bb x W
   have bO:u.length<2000:=by omega
   have bG:=aJ
   clear v0 v1 vb vz aA Z ab i2 P b2 b3 hx hr e2 aJ
   gi_wp2_with (first|(refine⟨trivial,?_⟩;gi_at_call 178;refine(CallsIn.inRound l (callsIn_wide.2 (ud bc))).mono ?_;rintro e V ⟨rfl,hV⟩;rw[<-hV]at aE aH aI M a5;clear hV)|gi_in)
   have e2:a.1.size=w.1.size+6:=ud i
   have vz:V.1.size=W.1.size+2:=ud a5
   have ac:=(ud aF).later (ud M)
   have a7:=(ud b7).later (ud M)
   have aU:=((ud M).block _ (by omega)).trans (ud bl)
   have a8:=zdP (ex:=fun k=>k=w.1.size+1) (n:=V.1.size) W.1.size (W.1.size+1) s x.1 c (ud HC) tv lb gb x.2.2.1 x.2.2.2.1 x.2.2.2.2 x.2.1.2.1 V (E _) ⟨ud aH,ud aI,ac.hd⟩ ⟨by omega,by omega⟩ ⟨by omega,by omega⟩ ⟨by have:=ud ah s (.inl rfl);omega,by have:=ud ah s (.inl rfl);omega⟩ (fun g hg=>by have:=ud ah g (.inr (.inl hg));constructor<;>omega)
   have bo:=ze a8
   have bk:=ze a7
   have bm:=ze aU
   clear a8 ac a7 aU vz e2 sc bB bC bD
   refine zlE (F:=Fence.wide.inRound l) (n:=5) (l₀:=l) (r₀:=r) rfl (ud aE) (by omega) (gf:=235) (lb:=#[(O W.1.size),(O (W.1.size+1))]) rfl trivial YU (((ud bo (V.1.size+1) (by omega)).deep (n':=4)).inRound l) (E _) (fun h k=>h.trans k) (fun W o o' h hc hw=>KX.putObj o' (E _) (by omega) h hw) (Q _ _) (fun _=>rfl)
    (fun v N=>(∃J,xe je N (w.1.size+1) J/\(∀y,y∈zj J↔(∃k∈u,y∈yI c k.1)\/y∈v.map (fun z:WSg=>z.1))/\J.length<=4*u.length+v.length)/\KX (fun k=>k=w.1.size+1) V.1.size (V.1.size+1) V N)
    (fun _ _ _=>False)
    (fun s A B ae hs hg hr=>⟨by obtain⟨C,P,b2⟩:=hs.1;exact⟨C,P.same (hg.block _ P.lt (fun e=>by have:=(hr _ e.symm).1;have:=ud i;have:=ud a5;omega)),b2⟩,KX.own (β:=Unit) (q:=V.1.size) (E _) () A B ae hs.2 hg hr⟩)
    (fun _ _ _ _ _ hs _ _=>hs)
    ⟨⟨C,ud bk,fun y=>by rw[ud b6 y];simp,by simpa using ud b8⟩,KX.refl _ _ _ _⟩
    (fun y a' N=>∃By,V.1.size<=By/\N.1[By]?=R (.cells #[I y.1.t,I y.1.sr,I y.1.wn] 146 (0,0))/\a'={tmps:=#[(O s),(O w.1.size),.map none,(O (w.1.size+1+1)),(O Bx),(O By),.map (R (w.1.size+1)),(O s),(O s),.pointer (R (U s 7)),.map (R lb),.func (.func 233) #[] #[(O X.1.size)],(O s),.func (.func 175) #[(O s)] #[],.func (.func 194) #[] #[(O b.1.size),(O (b.1.size+1))],.agg #[I x.1.t,I x.1.sr,I x.1.wn],(O s),.agg #[I x.1.t,I x.1.sr,I x.1.wn],.func (.func 235) #[] #[(O W.1.size),(O (W.1.size+1))],.agg #[I y.1.t,I y.1.sr,I y.1.wn],undef,undef,undef,undef],defers:=[]})
    (fun y a' s A B ae hs hg hr=>by
     obtain⟨By,h1,h2,h3⟩:=hs
     exact⟨By,h1,zu h2 hg (fun r e=>(hr r e).2),h3⟩) ?assign2 ?body2 ?done2 ?stop2
   case assign2=>
    rintro l2 v y N K ⟨⟨J,d1,d2⟩,j2⟩ hK
    have HK:=ze hK
    have aZ:=j2.kept.size
    clear hK
    gi_wp2
    have d:=(Q N.1.size N).alloc (E _) (.cells #[I y.1.t,I y.1.sr,I y.1.wn] 146)
    refine ud HK _ _ (zk d) (KX.of_below d) ⟨⟨J,d1.later d,d2⟩,j2.trans (KX.of_below d)⟩ ⟨N.1.size,aZ,zp _ _,rfl⟩
   case body2=>
    rintro l2 v y a' N ax _ ⟨⟨J,d1,d2,d3⟩,j2⟩ ⟨By,bM,hy,rfl⟩ bI
    have bu:=(ud HC).n4
    have e2:a.1.size=w.1.size+6:=ud i
    have vz:V.1.size=W.1.size+2:=ud a5
    have ay:=qk j2 (ud bm) (by omega) (by omega)
    obtain⟨oc,-⟩:=zc ay
    obtain⟨bT,bU,bV,-⟩:=zc hy
    have bS:=zd hy
    have bv:=zd ay
    obtain⟨o,bJ,aT,aQ,ho⟩:=zpp d1 (by simp only[maxLen];omega) y.2
    have aV:w.1.size+1<V.1.size:=by omega
    have bj:=ze aT
    have au:=ze aQ
    have be:=ze j2
    have ap:=ze d2
    have aq:=ze d3
    clear ay aT aQ j2 d1 d2 d3 hy vz e2
    gi_wp2
    refine⟨Xj (ud au) aV,Zw (ud au) (by omega),⟨_,ud bj,fun z=>?_,?_⟩,(ud be).trans (Zw (ud au) (by omega))⟩
    ·rw[zY,ud ap z,List.map_append,List.mem_append];simp[or_assoc]
    ·rw[vi];have:=ud aq;simp only[List.length_append,List.length_cons,List.length_nil];split<;>omega
   case done2=>
    rintro xs N hS ⟨⟨J,d1,d2,d3⟩,j2⟩
    subst hS
    have bu:=(ud HC).n4
    have bA:=zaL c x.1
    have e2:a.1.size=w.1.size+6:=ud i
    have vz:V.1.size=W.1.size+2:=ud a5
    have aR:KX (fun k=>k=w.1.size+1) (w.1.size+6) (a.1.size+2) V N:=zim j2 (by omega) (E _) (fun k e=>by omega)
    have al:KX (fun k=>k=w.1.size+1) (w.1.size+6) a.1.size V N:=zim j2 (by omega) (E _) (fun k e=>by omega)
    have aC:=ze aR
    have bg:=ze ((zk (B:=a.1.size) (ud M)).trans (al.from (E _)))
    have b9:=ze d1
    have ap:=ze d2
    have aq:=ze d3
    clear aR al d1 d2 d3 j2 vz e2
    gi_wp2
    refine⟨ud bg,(KX.of_below (ud M)).trans (ud aC),⟨_,ud b9,fun z=>?_,?_⟩,(ud bd).trans ((KX.of_below (ud M)).trans (ud aC))⟩
    ·rw[ud ap z]
     have:=jg (ud HC) x.2 z
     unfold kB at this
     rw[this]
     constructor
     ·rintro(⟨k,Y,hz⟩|hz)
      ·exact⟨k,List.mem_append_left _ Y,hz⟩
      ·exact⟨x,by simp,hz⟩
     ·rintro⟨k,Y,hz⟩
      rcases List.mem_append.1 Y with Y|Y
      ·exact .inl ⟨k,Y,hz⟩
      ·simp at Y;subst Y;exact .inr hz
    ·have:=ud aq
     unfold kB at bA
     simp only[List.length_append,List.length_cons,List.length_nil]
     omega
   case stop2=>
    rintro cc v N _ hh
    exact hh.elim
  case done=>
   rintro D xs W hD ⟨zs,⟨ps,hp,rfl⟩,rfl⟩ ⟨⟨C,P,b2,b3⟩,i2⟩ hK
   have e2:a.1.size=w.1.size+6:=ud i
   have Z:=qk i2 (ud aD) (by omega) (by omega)
   obtain⟨oc,-⟩:=zc Z
   have bv:=zd Z
   have bt:D≠w.1.size+1:=by omega
   have af:=ze (xe.same P (World.putObj_heap_other (o:=.deferred none) (w:=W) (fun e=>bt e.symm)))
   have ag:=ze b2
   have b4:Hid (T w.1.size w (W.putObj D (.deferred none))):=by
    have Y:T w.1.size a W:=⟨i2.kept.os,i2.kept.tape,i2.kept.output,i2.kept.size,fun k Y=>i2.low (by omega) (by omega) (by omega)⟩
    exact xu ((ud bq).trans Y) (E _) (by omega) hK _
   clear Z i2 P b2 b3 e2
   gi_wp2
   go_wp2_with fail
   refine⟨by simp,.inl ⟨_,_,rfl,run_takeDeferred hK,?_⟩⟩
   refine⟨_,results_tmp rfl _ _ _,w.1.size+1,C,rfl,ud af,fun z=>?_,Nat.le_succ _,ud b4⟩
   rw[ud ag z]
   have am:∀k:Sg,(∃q∈(ps.map (fun p:Sg×SV=>zfO c p.1)).filter (fun q=>(stL L q.1).st==2),q.1=k)↔k∈zn L/\(stL L k).st=2:=fun k=>by
    constructor
    ·rintro⟨q,hq,rfl⟩
     obtain⟨h1,h2⟩:=List.mem_filter.1 hq
     obtain⟨p,bw,rfl⟩:=List.mem_map.1 h1
     have a0:=hp.mem_iff.1 bw
     rw[kL (ud HL p a0)]at h2 ⊢
     exact⟨List.mem_map.2 ⟨p,a0,rfl⟩,by simpa using h2⟩
    ·rintro⟨h1,h2⟩
     obtain⟨p,a0,rfl⟩:=List.mem_map.1 (show k∈L.map (·.1)from h1)
     refine⟨zfO c p.1,List.mem_filter.2 ⟨List.mem_map.2 ⟨p,hp.mem_iff.2 a0,rfl⟩,?_⟩,kL (ud HL p a0)⟩
     rw[kL (ud HL p a0)];simpa using h2
   constructor
   ·rintro⟨q,hq,hz⟩
    obtain⟨a1,a2⟩:=(am q.1).1 ⟨q,hq,rfl⟩
    exact⟨q.1,a1,a2,hz⟩
   ·rintro⟨k,a1,a2,hz⟩
    obtain⟨q,hq,rfl⟩:=(am k).2 ⟨a1,a2⟩
    exact⟨q,hq,hz⟩
  case stop=>
   rintro D c u W _ _ h _
   exact h.elim
theorem zgb:∀args w,(callFunc 174 args).run prog w=.ok (.enter 174 args) w:=enters_of func174 (by kernel_rfl) rfl
theorem zfR:∀args w,(callFunc 176 args).run prog w=.ok (.enter 176 args) w:=enters_of func176 (by kernel_rfl) rfl
theorem zbE{α:Type}{F:Fence}{n:Nat}{P:Program}{g:Nat}{lb:Array za}{encs:α->Array za}{Kp:G->G->Prop}{S S' d:List α->Prop}{N m:Nat}{w:G}(h:Yb F n P g lb encs Kp S d N m w)(s:∀xs,S xs->S' xs):Yb F n P g lb encs Kp S' d N m w:=
 fun l J f W p r o c q i=>(h l J f W p r o c q i).mono fun e V ⟨j,k⟩=>⟨j,k.imp (fun⟨xs,a,b⟩=>⟨xs,s xs a,b⟩) id⟩
theorem vm{w:G}{s:Nat}{c:Cf}{tv:za}{lb gb:Nat}{Gl:List (Sg×Unit)}{L:LV}(h:xE w s c tv lb gb Gl L)(hc:c.ok)(hL:∀p∈L,inR c p.1)(now:Int)(j:0<=now/\now<=100000):
  Calls prog 114 #[(O s),I now] w fun e w'=>∃Bl Bh,e=.returned (.func (.func 194) #[] #[(O Bl),(O Bh)])/\T w.1.size w w'/\
   ∀ex:Nat->Prop,(∀k,ex k->k<w.1.size/\¬jJ s tv lb gb k)->vZ ex w'.1.size prog 194 #[(O Bl),(O Bh)] (fun x:RSg c=>#[.agg #[I x.1.t,I x.1.sr,I x.1.wn]]) (fun ys=>∃ps:LV,ps.Perm L/\ys=(ps.map (fun p:Sg×SV=>zfO c p.1)).filter (fun x=>yQ c L now x.1)) L.length w':=by
 have Z:=h.lt
 obtain⟨y0,y1,o,A⟩:=box2 w (.cells #[(O s)] 90) (.cells #[I now] 3)
 obtain⟨-,-,-,-,-,-,-,c7,-⟩:=h.cells
 have C:=ze (Jl lb ((w.alloc (.cells #[(O s)] 90)).alloc (.cells #[I now] 3)))
 obtain⟨p0,-⟩:=zc y0
 have x7:=(o.cell (p:=(U s 7)) Z).trans c7
 have a0:w.1.size<((w.alloc (.cells #[(O s)] 90)).alloc (.cells #[I now] 3)).1.size:=by rw[A];omega
 have a5:s<((w.alloc (.cells #[(O s)] 90)).alloc (.cells #[I now] 3)).1.size:=by rw[A];omega
 have H:=ze h
 have Y0:=ze y0
 have Y1:=ze y1
 have YZ:=ze A
 have B:=ze o
 have HC:=ze hc
 have HL:=ze hL
 have F:=ze j
 clear h y0 y1 A o hc hL c7 j
 go_enter func114,ntmps114
 go_wp2_with fail
 generalize((w.alloc (.cells #[(O s)] 90)).alloc (.cells #[I now] 3))=X at*
 refine(ud C).mono ?_
 rintro e b ⟨rfl,g⟩
 have v:T X.1.size X b:=by rw[g];exact(Q _ _).alloc (E _) _
 have K:Hid (b.1.size=X.1.size+1):=by show b.1.size=_;rw[g];exact zN _ _
 have D:Hid (b.1[X.1.size]?=R (.cells #[.map (R lb)] 152 (0,0))):=by show b.1[X.1.size]?=_;rw[g];exact zp _ _
 have r:=ze v
 have J:=ze (KI 233 #[(O X.1.size)] 176 #[] #[(O w.1.size),(O (w.1.size+1))] b)
 clear g v p0 x7
 go_wp2_with fail
 refine(ud J).mono ?_
 rintro e i ⟨rfl,u⟩
 obtain⟨M,a2,a3,a4⟩:=box2 b (.cells #[.func (.func 233) #[] #[(O X.1.size)]] 199) (.cells #[.func (.func 176) #[] #[(O w.1.size),(O (w.1.size+1))]] 206)
 rw[<-u]at M a2 a3 a4
 have A1:=ze M
 have A2:=ze a2
 have A3:=ze a3
 have A4:=ze a4
 clear u M a2 a3 a4
 go_wp2_with fail
 go_ret
 have e0:X.1.size=w.1.size+2:=ud YZ
 have e1:b.1.size=X.1.size+1:=ud K
 have e2:i.1.size=b.1.size+2:=ud A4
 have d:T X.1.size X i:=(ud r).trans ((ud A3).mono (ud r).size)
 have z:T w.1.size w i:=(ud B).trans (d.mono (by omega))
 refine⟨b.1.size,b.1.size+1,rfl,z,fun ex y=>?_⟩
 have l:=(ud H).later z
 have N:=(ud H).foot_lt
 have a:∀k,w.1.size<=k->¬ex k:=fun k q e=>by have:=(y k e).1;omega
 have f:∀k,jJ s tv lb gb k->k<i.1.size/\¬ex k:=fun k q=>⟨by have:=N k q;omega,fun e=>(y k e).2 q⟩
 have P:=((ud A3).block _ (by omega)).trans (ud D)
 have Y:=(d.block _ (by omega)).trans (ud Y0)
 have S:=(d.block _ (by omega)).trans (ud Y1)
 have hW:=Zq (fun x:RSg c=>x.1) _ _ zco _ #[] _ zfR (ex:=ex) (n:=i.1.size) (fun x=>yQ c L now x.1) b.1.size (b.1.size+1) i (E _) ⟨by omega,a _ (by omega)⟩ ⟨by omega,a _ (by omega)⟩ (ud A1) (ud A2)
  (fun x W ⟨m,q⟩=>by
   have q0:=qk q Y (by omega) (a _ (by omega))
   have q1:=qk q S (by omega) (a _ (by omega))
   exact Yj (l.kx q f) (ud HC) x.1 x.2.1 x.2.2.1 x.2.2.2.1 x.2.2.2.2 now (ud F) w.1.size (w.1.size+1) (by rw[xH q0];rfl) (by rw[xH q1];rfl) (zd q0) (zd q1))
  (zcw (fun x:RSg c=>x.1) (zfO c) (ex:=ex) (n:=i.1.size) X.1.size lb L (fun p V=>kL (ud HL p V)) i (f lb (.inr (.inr (.inl rfl)))).2 (by omega) (by rw[xH P];rfl) (qA.1 l.live))
 exact fun m hm=>zbE (hW m hm) (fun ys ⟨xs,⟨ps,V,e1⟩,e2⟩=>⟨ps,V,by rw[e2,e1]⟩)
theorem zbz{w:G}{s:Nat}{c:Cf}{tv:za}{lb gb:Nat}{Gl:List (Sg×Unit)}{L:LV}(h:xE w s c tv lb gb Gl L)(hc:c.ok)(hL:∀p∈L,inR c p.1)(S:L.length<=2000)(now:Int)(v:0<=now/\now<=100000):
  Calls prog 112 #[(O s),I now] w fun e w'=>∃Bl Bh J,e=.returned (.func (.func 194) #[] #[(O Bl),(O Bh)])/\T w.1.size w w'/\(∀x,x∈zj J↔∃k,k∈zn L/\(stL L k).st=2/\x∈yI c k)/\
   ∀ex:Nat->Prop,(∀k,ex k->k<w.1.size/\¬jJ s tv lb gb k)->vZ ex w'.1.size prog 194 #[(O Bl),(O Bh)] (fun x:RSg c=>#[.agg #[I x.1.t,I x.1.sr,I x.1.wn]]) (fun ys=>∃ps:LV,ps.Perm L/\ys=(ps.map (fun p:Sg×SV=>zfO c p.1)).filter (fun x=>yR c J L now x.1)) L.length w':=by
 have ao:=h.lt
 obtain⟨y0,y1,r,yz⟩:=box2 w (.cells #[(O s)] 90) (.cells #[I now] 3)
 obtain⟨-,-,-,-,-,-,-,c7,-⟩:=h.cells
 have a7:=ze (zcf (h.later r) hc hL S)
 obtain⟨p0,-⟩:=zc y0
 have x7:=(r.cell (p:=(U s 7)) ao).trans c7
 have D:w.1.size<((w.alloc (.cells #[(O s)] 90)).alloc (.cells #[I now] 3)).1.size:=by rw[yz];omega
 have F:s<((w.alloc (.cells #[(O s)] 90)).alloc (.cells #[I now] 3)).1.size:=by rw[yz];omega
 have H:=ze h
 have Y0:=ze y0
 have Y1:=ze y1
 have YZ:=ze yz
 have a8:=ze r
 have HC:=ze hc
 have HL:=ze hL
 have ab:=ze v
 clear h y0 y1 yz r hc hL c7 v
 go_enter func112,ntmps112
 go_wp2_with fail
 generalize((w.alloc (.cells #[(O s)] 90)).alloc (.cells #[I now] 3))=X at*
 refine(ud a7).mono ?_
 rintro e f ⟨ob,J,rfl,V,A,B,q⟩
 have bb:=zp f (.cells #[.map (R ob)] 153)
 have hbb:T f.1.size f (f.alloc (.cells #[.map (R ob)] 153)):=(Q _ _).alloc (E _) _
 have a0:=zN f (.cells #[.map (R ob)] 153)
 have a:=q.trans (hbb.mono q.size)
 have p1:=(a.cell (p:=(U w.1.size 0)) D).trans p0
 have ap:=(a.cell (p:=(U s 7)) F).trans x7
 have y:=V.later hbb
 have ar:=z9 D a.size
 have au:=z9 F a.size
 have a6:=ze bb
 have ai:=ze a0
 have a5:=ze a
 have ac:=ze y
 have ad:=ze A
 have ae:=ze B
 have ag:=ze q.size
 have a9:=ze (Jl lb (f.alloc (.cells #[.map (R ob)] 153)))
 clear bb hbb a0 a V y A B q p0 x7 D F
 go_wp2_with fail
 generalize(f.alloc (.cells #[.map (R ob)] 153))=Z at*
 refine(ud a9).mono ?_
 rintro e d ⟨rfl,o⟩
 have N:T Z.1.size Z d:=by rw[o];exact(Q _ _).alloc (E _) _
 have ah:Hid (d.1.size=Z.1.size+1):=by show d.1.size=_;rw[o];exact zN _ _
 have aa:Hid (d.1[Z.1.size]?=R (.cells #[.map (R lb)] 152 (0,0))):=by show d.1[Z.1.size]?=_;rw[o];exact zp _ _
 have K:=ze N
 have af:=ze (KI 233 #[(O Z.1.size)] 174 #[] #[(O f.1.size),(O w.1.size),(O (w.1.size+1))] d)
 clear o N p1 ap
 go_wp2_with fail
 refine(ud af).mono ?_
 rintro e l ⟨rfl,M⟩
 obtain⟨a1,a2,a3,a4⟩:=box2 d (.cells #[.func (.func 233) #[] #[(O Z.1.size)]] 199) (.cells #[.func (.func 174) #[] #[(O f.1.size),(O w.1.size),(O (w.1.size+1))]] 206)
 rw[<-M]at a1 a2 a3 a4
 have A1:=ze a1
 have A2:=ze a2
 have A3:=ze a3
 have A4:=ze a4
 clear M a1 a2 a3 a4
 go_wp2_with fail
 go_ret
 have e0:X.1.size=w.1.size+2:=ud YZ
 have ez:Z.1.size=f.1.size+1:=ud ai
 have e1:d.1.size=Z.1.size+1:=ud ah
 have eX:X.1.size<=f.1.size:=ud ag
 have eo:=ud ae
 have e2:l.1.size=d.1.size+2:=ud A4
 have i:T Z.1.size Z l:=(ud K).trans ((ud A3).mono (ud K).size)
 have g:T X.1.size X l:=(ud a5).trans (i.mono (by omega))
 have Y:T w.1.size w l:=(ud a8).trans (g.mono (by omega))
 refine⟨d.1.size,d.1.size+1,J,rfl,Y,ud ad,fun ex P=>?_⟩
 have C:=(ud H).later Y
 have ak:=(ud H).foot_lt
 have b:∀k,w.1.size<=k->¬ex k:=fun k u e=>by have:=(P k e).1;omega
 have j:∀k,jJ s tv lb gb k->k<l.1.size/\¬ex k:=fun k u=>⟨by have:=ak k u;omega,fun e=>(P k e).2 u⟩
 have al:=((ud A3).block _ (by omega)).trans (ud aa)
 have z:=(ud ac).later i
 have aj:=(i.block _ (by omega)).trans (ud a6)
 have aq:=z.lt
 have an:=(g.block _ (by omega)).trans (ud Y0)
 have am:=(g.block _ (by omega)).trans (ud Y1)
 have hW:=Zq (fun x:RSg c=>x.1) _ _ zco _ #[] _ zgb (ex:=ex) (n:=l.1.size) (fun x=>yR c J L now x.1) d.1.size (d.1.size+1) l (E _) ⟨by omega,b _ (by omega)⟩ ⟨by omega,b _ (by omega)⟩ (ud A1) (ud A2)
  (fun x W ⟨m,u⟩=>by
   have q0:=qk u an (by omega) (b _ (by omega))
   have q1:=qk u am (by omega) (b _ (by omega))
   have q2:=qk u aj (by omega) (b _ (by omega))
   exact JP (C.kx u j) (ud HC) (xe.kept z u.kept (fun e=>e.elim (b _ (by omega)) (by omega))) x.1 x.2.1 x.2.2.1 x.2.2.2.1 x.2.2.2.2 now (ud ab) f.1.size w.1.size (w.1.size+1) (by rw[xH q2];rfl) (by rw[xH q0];rfl) (by rw[xH q1];rfl) (zd q2) (zd q0) (zd q1))
  (zcw (fun x:RSg c=>x.1) (zfO c) (ex:=ex) (n:=l.1.size) Z.1.size lb L (fun p hp=>kL (ud HL p hp)) l (j lb (.inr (.inr (.inl rfl)))).2 (by omega) (by rw[xH al];rfl) (qA.1 C.live))
 exact fun m hm=>zbE (hW m hm) (fun ys ⟨xs,⟨ps,hp,e1⟩,e2⟩=>⟨ps,hp,by rw[e2,e1]⟩)
theorem vR(s:Sg)(w:G):(method 518 195 (.agg #[I s.t,I s.sr,I s.wn]) "Kind").run prog w=.ok (334,.agg #[I s.t,I s.sr,I s.wn]) w:=by kernel_rfl
theorem jk(s:Sg)(w:G):(method 518 195 (.agg #[I s.t,I s.sr,I s.wn]) "Segment").run prog w=.ok (335,.agg #[I s.t,I s.sr,I s.wn]) w:=by kernel_rfl
theorem Jw(s:Sg)(w:G):(method 518 195 (.agg #[I s.t,I s.sr,I s.wn]) "Due").run prog w=.ok (333,.agg #[I s.t,I s.sr,I s.wn]) w:=by kernel_rfl
theorem kind_Roll(s:Sg)(w:G):Calls prog 334 #[.agg #[I s.t,I s.sr,I s.wn]] w (Rz w (I 1)):=by
 go_enter func334,ntmps334
 go_wp2_with fail
 go_ret
 exact⟨rfl,(Q _ _).alloc (E _) _⟩
theorem segm_Roll(s:Sg)(w:G):Calls prog 335 #[.agg #[I s.t,I s.sr,I s.wn]] w (Rz w (.agg #[I s.t,I s.sr,I s.wn])):=by
 obtain⟨c,b,a,d⟩:=box2 w (.cells #[I s.t,I s.sr,I s.wn] 195) (.cells #[I s.t,I s.sr,I s.wn] 146)
 go_enter func335,ntmps335
 go_wp2_with fail
 refine bodyPost_ret (v:=.agg #[I s.t,I s.sr,I s.wn]) (results_cell_row results335 _ _ (w.1.size+1) _ _ _ _ rfl b underlying146 rfl (by kernel_rfl)) rfl ?_
 exact⟨rfl,a⟩
theorem keyOf_Roll(s:Sg)(w:G):Calls prog 102 #[.iface 195 (.agg #[I s.t,I s.sr,I s.wn])] w (Rz w (.agg #[I 1,I s.t,I s.sr,I s.wn])):=by
 have b0:=zp w zbY
 have m:=zN w zbY
 have g:T w.1.size w (w.alloc zbY):=(Q _ _).alloc (E _) _
 have q:=fun W=>ze (kind_Roll s W)
 have r:=fun W=>ze (segm_Roll s W)
 have n:=ze b0
 have o:=ze m
 have h:=ze g
 clear b0 m g
 have y:=vR s
 have z:=jk s
 go_enter func102,ntmps102
 go_wp2_with(first
  |(go_at_call 334;refine(ud (q _)).mono ?_;rintro e A ⟨rfl,a⟩;have c:=ze a;clear a)
  |(go_at_call 335;refine(ud (r _)).mono ?_;rintro e B ⟨rfl,b⟩;have d:w.1.size<(w.alloc zbY).1.size:=(by rw[ud o];omega);have f:=(b.block w.1.size (z9 d (ud c).size)).trans (((ud c).block w.1.size d).trans (ud n));obtain⟨C,D,F,H,-⟩:=zc f;have J:=fun j=>zv f j;have x:=zd f;have p:=ze f;have k:=ze b;clear b f d))
 have u:=xy (i:=3) (xy (i:=2) (xy (i:=1) (xy (i:=0) (ud p) (I 1)) (I s.t)) (I s.sr)) (I s.wn)
 refine bodyPost_ret (v:=.agg #[I 1,I s.t,I s.sr,I s.wn]) (results_cell_row results102 _ _ w.1.size _ _ _ _ rfl u underlying162 rfl (by kernel_rfl)) rfl ?_
 have l:=ud h
 have a:=ud c
 have b:=ud k
 exact⟨rfl,(l.trans (a.mono l.size)).trans ((b.mono (zb l.size a.size)).trans (below4 (E _) _ _ _ _))⟩
theorem kf(s:Sg)(w:G):(method 518 197 (.agg #[I s.t,I s.sr,I s.wn]) "Kind").run prog w=.ok (337,.agg #[I s.t,I s.sr,I s.wn]) w:=by kernel_rfl
theorem kD(s:Sg)(w:G):(method 518 197 (.agg #[I s.t,I s.sr,I s.wn]) "Segment").run prog w=.ok (338,.agg #[I s.t,I s.sr,I s.wn]) w:=by kernel_rfl
theorem Yh(s:Sg)(w:G):(method 518 197 (.agg #[I s.t,I s.sr,I s.wn]) "Due").run prog w=.ok (336,.agg #[I s.t,I s.sr,I s.wn]) w:=by kernel_rfl
theorem kind_Reclaim(s:Sg)(w:G):Calls prog 337 #[.agg #[I s.t,I s.sr,I s.wn]] w (Rz w (I 2)):=by
 go_enter func337,ntmps337
 go_wp2_with fail
 go_ret
 exact⟨rfl,(Q _ _).alloc (E _) _⟩
theorem segm_Reclaim(s:Sg)(w:G):Calls prog 338 #[.agg #[I s.t,I s.sr,I s.wn]] w (Rz w (.agg #[I s.t,I s.sr,I s.wn])):=by
 obtain⟨c,b,a,d⟩:=box2 w (.cells #[I s.t,I s.sr,I s.wn] 197) (.cells #[I s.t,I s.sr,I s.wn] 146)
 go_enter func338,ntmps338
 go_wp2_with fail
 refine bodyPost_ret (v:=.agg #[I s.t,I s.sr,I s.wn]) (results_cell_row results338 _ _ (w.1.size+1) _ _ _ _ rfl b underlying146 rfl (by kernel_rfl)) rfl ?_
 exact⟨rfl,a⟩
theorem keyOf_Reclaim(s:Sg)(w:G):Calls prog 102 #[.iface 197 (.agg #[I s.t,I s.sr,I s.wn])] w (Rz w (.agg #[I 2,I s.t,I s.sr,I s.wn])):=by
 have b0:=zp w zbY
 have m:=zN w zbY
 have g:T w.1.size w (w.alloc zbY):=(Q _ _).alloc (E _) _
 have q:=fun W=>ze (kind_Reclaim s W)
 have r:=fun W=>ze (segm_Reclaim s W)
 have n:=ze b0
 have o:=ze m
 have h:=ze g
 clear b0 m g
 have y:=kf s
 have z:=kD s
 go_enter func102,ntmps102
 go_wp2_with(first
  |(go_at_call 337;refine(ud (q _)).mono ?_;rintro e A ⟨rfl,a⟩;have c:=ze a;clear a)
  |(go_at_call 338;refine(ud (r _)).mono ?_;rintro e B ⟨rfl,b⟩;have d:w.1.size<(w.alloc zbY).1.size:=(by rw[ud o];omega);have f:=(b.block w.1.size (z9 d (ud c).size)).trans (((ud c).block w.1.size d).trans (ud n));obtain⟨C,D,F,H,-⟩:=zc f;have J:=fun j=>zv f j;have x:=zd f;have p:=ze f;have k:=ze b;clear b f d))
 have u:=xy (i:=3) (xy (i:=2) (xy (i:=1) (xy (i:=0) (ud p) (I 2)) (I s.t)) (I s.sr)) (I s.wn)
 refine bodyPost_ret (v:=.agg #[I 2,I s.t,I s.sr,I s.wn]) (results_cell_row results102 _ _ w.1.size _ _ _ _ rfl u underlying162 rfl (by kernel_rfl)) rfl ?_
 have l:=ud h
 have a:=ud c
 have b:=ud k
 exact⟨rfl,(l.trans (a.mono l.size)).trans ((b.mono (zb l.size a.size)).trans (below4 (E _) _ _ _ _))⟩
end Go.Proofs.YtndhpgciopcncaaGreatDoor
