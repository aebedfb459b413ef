import Derived.Test.YtndhpgciopcncaaGreatDoorHDisk5
open Nat renaming le_refl → J
open Go.RowKit.Below renaming refl → K
open Option renaming some → E
set_option linter.unusedVariables false
set_option maxHeartbeats 4000000
open Go.Proofs.Tryz
namespace Go.Proofs.YtndhpgciopcncaaGreatDoor
open Go.RowKit
variable {S:DS} {f:FS} {keep n:Int} {k:Nat}
def Yp:DS:=⟨[],-1,false⟩
theorem zdn(B:Nat)(w:World)(a:B<=w.1.size):
  Calls prog 38 #[] w fun e w'=>e=.returned (O w.1.size)/\zx 111 113 B w' w.1.size Yp (.slice none 0 0)/\Below w.1.size w w'/\w'.1.size=w.1.size+1:=by
 go_enter func38,ntmps38;go_wp2;go_ret;exact⟨rfl,⟨heap_alloc_last _ _,a,zae _ _ _ _⟩,(K _ _).alloc (J _) _,xU _ _⟩
theorem Vv(h:zj S=true):ZF S n=S:=by simp[ZF,h]
theorem zgE(h:zj S=false)(hn:n<0):ZF S n={S with left:= -1}:=by simp[ZF,h,hn]
theorem zgF(h:zj S=false)(hn:¬n<0):ZF S n={S with left:=n}:=by simp[ZF,h,hn]
theorem zml(B:Nat)(p:Nat)(S:DS)(fs:Value)(n:Int)(w:World)(b:zx 111 113 B w p S fs):
  Calls prog 28 #[(O p),I n] w fun e w'=>e=.returned (.tuple #[])/\zx 111 113 B w' p (ZF S n) fs/\zi (foot p fs) w w':=by
 cases c:zj S
 ·by_cases hn:n<0
  ·rw[zgE c hn];by_cases h:n= -1
   ·subst h;have a:=ze (vJ B p S fs w b);rw[c]at a;clear c;go_enter func28,ntmps28;go_wp2_with(go_at_call 32;refine(ud a).mono ?_;rintro e w1 ⟨rfl,rfl⟩;have d:=b.c1;have f:=b.free 1);go_end0;exact⟨rfl,b.setLeft (by decide) (-1)⟩
   ·have g:¬ -1<=n:=(by omega);have a:=ze (vJ B p S fs w b);rw[c]at a;clear c;go_enter func28,ntmps28;go_wp2_with(go_at_call 32;refine(ud a).mono ?_;rintro e w1 ⟨rfl,rfl⟩;have d:=b.c1;have f:=b.free 1);go_end0;try rw[show(max n (-1):Int)= -1 from by omega]
    exact⟨rfl,b.setLeft (by decide) (-1)⟩
  ·rw[zgF c hn];have g: -1<=n:=(by omega);have a:=ze (vJ B p S fs w b);rw[c]at a;clear c;go_enter func28,ntmps28;go_wp2_with(go_at_call 32;refine(ud a).mono ?_;rintro e w1 ⟨rfl,rfl⟩;have d:=b.c1;have f:=b.free 1);go_end0;try rw[show(max n (-1):Int)=n from by omega]
   exact⟨rfl,b.setLeft (by decide) n⟩
 ·rw[Vv c];have a:=ze (vJ B p S fs w b);rw[c]at a;clear c;go_enter func28,ntmps28;go_wp2_with(go_at_call 32;refine(ud a).mono ?_;rintro e w1 ⟨rfl,rfl⟩;have d:=b.c1;have f:=b.free 1);go_end0;exact⟨rfl,b,zi.refl _ _⟩
theorem zef{a b:ByteArray}(h:a=b):Ending.returned (.string a)=.returned (.string b):=by rw[h]
def yh(S:DS)(nm:ByteArray):ByteArray:=match xL S.files nm with|some i=>(match S.files[i]? with|some f=>f.data|none=>⟨#[]⟩)|none=>⟨#[]⟩
theorem zak(B:Nat)(p:Nat)(S:DS)(fs:Value)(nm:ByteArray)(w:World)(N:Nat)(j:N<=1099511627776)(hn:S.files.length<=N)(h:zx 111 113 B w p S fs):
  Calls prog 128 #[(O p),.string nm] w fun e w'=>e=.returned (.string (yh S nm))/\w'=w:=by
 have b:=ze (yW B p S fs nm w N j hn h);cases a:xL S.files nm with
 |none=>
  have c:qN S.files nm= -1:=by simp[qN,a]
  have HR:Hid (yh S nm=⟨#[]⟩):=by show _=_;simp[yh,a]
  rw[c]at b;clear a c;go_enter func128,ntmps128;go_wp2_with(go_at_call 198;refine(ud b).mono ?_;rintro e w1 ⟨rfl,rfl⟩);go_ret;exact⟨zef (ud HR).symm,rfl⟩
 |some i=>
  obtain⟨f,d,l,_⟩:=ku a;have c:qN S.files nm=i:=by simp[qN,a]
  have HR:Hid (yh S nm=f.data):=by show _=_;simp[yh,a,d]
  rw[c]at b;have m:(i:Int)<S.files.length:=by omega
  have k:¬(i:Int)<0:=by omega
  obtain⟨g,cap,rfl,-⟩:=h.files (by omega);have o:=h.c0;obtain⟨q,r,s,n⟩:=h.at d;clear a c d n;go_enter func128,ntmps128;go_wp2_with(go_at_call 198;refine(ud b).mono ?_;rintro e w1 ⟨rfl,rfl⟩);go_ret;exact⟨zef (ud HR).symm,rfl⟩
theorem zod(B:Nat)(p:Nat)(S:DS)(fs:Value)(nm:ByteArray)(w:World)(N:Nat)(d:N<=1099511627776)(hn:S.files.length<=N)(h:zx 111 113 B w p S fs):
  Calls prog 205 #[(O p),.string nm] w fun e w'=>e=.returned (.bool (xL S.files nm).isSome)/\w'=w:=by
 have a:=ze (yW B p S fs nm w N d hn h);cases b:xL S.files nm with
 |none=>
  have c:qN S.files nm= -1:=by simp[qN,b]
  rw[c]at a;clear b c;go_enter func205,ntmps205;go_wp2_with(go_at_call 198;refine(ud a).mono ?_;rintro e w1 ⟨rfl,rfl⟩);go_ret;exact⟨rfl,rfl⟩
 |some i=>
  have c:qN S.files nm=i:=by simp[qN,b]
  have f:(0:Int)<=(i:Int):=by omega
  rw[c]at a;clear b c;go_enter func205,ntmps205;go_wp2_with(go_at_call 198;refine(ud a).mono ?_;rintro e w1 ⟨rfl,rfl⟩);go_ret;exact⟨vA (by simp),rfl⟩
def yr(keep:Int)(l:List FS)(k:Nat):List FS:=(l.take k).map (leftOf keep)
theorem zdj(keep:Int)(l:List FS):yr keep l 0=[]:=by simp[yr]
theorem zdi{l:List FS}(h:l[k]?=E f):yr keep l (k+1)=yr keep l k++[leftOf keep f]:=by
 simp[yr,ZG h]
theorem JR(keep:Int)(l:List FS)(k:Nat):(yr keep l k).length<=k:=by
 have:=List.length_take_le k l;simp[yr];omega
theorem zfP(keep:Int)(l:List FS):yr keep l l.length=l.map (leftOf keep):=by simp[yr]
theorem YH(d:ByteArray)(n:Nat):(d.extract 0 n).size=min n d.size:=by simp
theorem zhO(d:ByteArray):d.extract 0 d.size=d:=by
 apply ByteArray.ext;simp
theorem VY(a:f.safe<=f.data.size)(b:keep<0)(c:keep<(f.data.size:Int)-f.safe):leftOf keep f=⟨f.name,f.data.extract 0 f.safe,f.safe⟩:=by
 simp only[leftOf,if_pos b,if_pos c,Nat.add_zero,YH];rw[Nat.min_eq_left a]
theorem zfO(a:(k:Int)<(f.data.size:Int)-f.safe):leftOf k f=⟨f.name,f.data.extract 0 (f.safe+k),min (f.safe+k) f.data.size⟩:=by
 have:¬(k:Int)<0:=by omega
 simp only[leftOf,if_neg this,if_pos a,Int.toNat_natCast,YH]
theorem VX(b:f.safe<=f.data.size)(a:¬keep<(f.data.size:Int)-f.safe):leftOf keep f=⟨f.name,f.data,f.data.size⟩:=by
 have e:f.safe+(f.data.size-f.safe)=f.data.size:=by omega
 simp only[leftOf,if_neg a,e,zhO]
theorem zbc(B:Nat)(p:Nat)(S:DS)(fs:Value)(keep:Int)(w:World)(N:Nat)(hN:N<=1099511627776)(a4:DOk S N)(hB:B<=w.1.size)(h:zx 111 113 B w p S fs):
  Calls prog 23 #[(O p),I keep] w fun e w'=>e=.returned (O w.1.size)/\∃V,zx 111 113 B w' w.1.size (Xp S keep) V/\Below w.1.size w w'/\w.1.size<w'.1.size/\∀k,V.ownBlock=E k->w.1.size<=k:=by
 obtain⟨ag,ah,hn,Z⟩:=a4;have T:=ze (zdn w.1.size w (J _));have hp:=h.lt;obtain⟨a,ac,rfl⟩:=YI h.row;go_enter func23,ntmps23;go_wp2_with(go_at_call 38;refine(ud T).mono ?_;rintro e w1 ⟨rfl,h1,P,aa⟩;have c0:=(h.later P).c0);go_loopw [7,8,15] (fun _ _ y wr=>∃(k:Nat) (v:Value),k<=S.files.length/\y=I k/\zx 111 113 w.1.size wr w.1.size ⟨yr keep S.files k,-1,false⟩ v/\Below w.1.size w wr) (fun _ _ y _=>S.files.length-(intOf y).toNat);case atStart=>exact⟨0,_,Nat.zero_le _,rfl,by rw[zdj];exact h1,P⟩
 case round=>
  obtain⟨k,v,u,rfl,C,L⟩:=hrel;have ae:=JR keep S.files k;have Y:=h.later L;clear c0 h1 P aa;by_cases a3:k<S.files.length
  ·obtain⟨a5,n,rfl⟩:=J8 C.row;obtain⟨f,hf⟩:=XY a3;obtain⟨g,ab,a6,-⟩:=Y.files (by omega);injection a6 with a7 a8 a9;subst a7;obtain⟨x0,x1,x2,xf⟩:=Y.at hf;obtain⟨a2,ad⟩:=Z f (List.mem_of_getElem? hf);have HK:=ze (zdi (keep:=keep) hf);have af:(k:Int)<S.files.length:=(by omega);have Q:=C.c0;have c0:=Y.c0;have ai:=Y.lt;have aj:=C.lt;clear hf a8 a9 xf;by_cases hc:keep<(f.data.size:Int)-f.safe
   ·by_cases a1:keep<0
    ·have R:=ze (VY a2 a1 hc);go_wp2_with fail;have j:Below wr.1.size wr (wr.alloc (.cells #[.string f.name,.string (f.data.extract 0 f.safe),I (f.safe:Nat)] 113)):=(K _ _).alloc (J _) _;have i:(wr.alloc (.cells #[.string f.name,.string (f.data.extract 0 f.safe),I (f.safe:Nat)] 113)).1[wr.1.size]?=E (.cells #[.string f.name,.string (f.data.extract 0 f.safe),I (f.safe:Nat)] 113 (0,0)):=heap_alloc_last _ _;have G:(wr.alloc (.cells #[.string f.name,.string (f.data.extract 0 f.safe),I (f.safe:Nat)] 113)).1.size=wr.1.size+1:=xU _ _;generalize x:(wr.alloc (.cells #[.string f.name,.string (f.data.extract 0 f.safe),I (f.safe:Nat)] 113))=W at j i G ⊢;have b:=C.later j;have z0:=b.c0;have z1:=b.free 0;have b0:W.cell? (U wr.1.size 0)=E (.string f.name):=(by rw[xT i];rfl);have b1:W.cell? (U wr.1.size 1)=E (.string (f.data.extract 0 f.safe)):=(by rw[xT i];rfl);have b2:W.cell? (U wr.1.size 2)=E (I (f.safe:Nat)):=(by rw[xT i];rfl);have q:=ze b.row;have t:=b.lt;have F:=L.size;have za:∀o:Obj,(W.alloc o).cell? (U w.1.size 0)=E (.slice a5 (yr keep S.files k).length n):=fun o=>(((K W.1.size W).alloc (J _) o).cell (p:=(U w.1.size 0)) t).trans z0;have zb:∀o:Obj,(W.alloc o).cell? (U wr.1.size 0)=E (.string f.name):=fun o=>(((K W.1.size W).alloc (J _) o).cell (p:=(U wr.1.size 0)) (show wr.1.size<_ by omega)).trans b0;clear x Q x0 x1 x2;go_region_law (refine jr rfl (.tmp 46) (.tmp 48) rfl w.1.size _ (yr keep S.files k) ⟨f.name,(f.data.extract 0 f.safe),f.safe⟩ (by simp[Act.eval]) (KE ((ud q).alloc _)) W.1.size (by simp[Act.eval];first|done|omega) (jj _ _) ?hll ?hbb ?_;(case hll=>omega);(case hbb=>(rw[KV];omega));intro X r w5 s d a0 M;have c:=Qw d;clear d;have D:zi (foot w.1.size (.slice a5 (yr keep S.files k).length n)) W w5:=zi.grown ((zi.refl _ _).alloc _) c (fun k u _=> .inr u);have l:w5.1[w.1.size]?=W.1[w.1.size]?:=(c.block w.1.size (by rw[xU];omega) (fun e=>b.apart (by decide) e.symm)).trans (Below.heap_alloc _ _ _ t);have Q:=(World.cell?_of_block (a:=(U w.1.size 0)) l).trans z0;have d1:=(World.frozen?_of_block (a:=(U w.1.size 0)) l).trans z1;have z:Below w.1.size w w5:=(L.trans (j.mono F)).trans (((K _ _).alloc (by omega) _).grown c (by rw[xU];omega) (fun k u=>(b.row.lt k u).1)))
     all_goals
      go_wp2_with fail
      obtain⟨H,hK⟩:=b.setFiles (by decide) D l s
      have A:=z.setCell (p:=(U w.1.size 0)) (J _) (.slice (E (U X 0)) ((yr keep S.files k).length+1) r)
      rw[<-ud R,<-ud HK]at H
      exact⟨⟨k+1,_,by omega,by go_num,H,A⟩,by simp[intOf];omega⟩
    ·obtain⟨m,rfl⟩:=Int.eq_ofNat_of_zero_le (show 0<=keep by omega);have R:=ze (zfO hc);go_wp2_with fail;have j:Below wr.1.size wr (wr.alloc (.cells #[.string f.name,.string (f.data.extract 0 (f.safe+m)),I (min (f.safe+m) f.data.size:Nat)] 113)):=(K _ _).alloc (J _) _;have i:(wr.alloc (.cells #[.string f.name,.string (f.data.extract 0 (f.safe+m)),I (min (f.safe+m) f.data.size:Nat)] 113)).1[wr.1.size]?=E (.cells #[.string f.name,.string (f.data.extract 0 (f.safe+m)),I (min (f.safe+m) f.data.size:Nat)] 113 (0,0)):=heap_alloc_last _ _;have G:(wr.alloc (.cells #[.string f.name,.string (f.data.extract 0 (f.safe+m)),I (min (f.safe+m) f.data.size:Nat)] 113)).1.size=wr.1.size+1:=xU _ _;generalize x:(wr.alloc (.cells #[.string f.name,.string (f.data.extract 0 (f.safe+m)),I (min (f.safe+m) f.data.size:Nat)] 113))=W at j i G ⊢;have b:=C.later j;have z0:=b.c0;have z1:=b.free 0;have b0:W.cell? (U wr.1.size 0)=E (.string f.name):=(by rw[xT i];rfl);have b1:W.cell? (U wr.1.size 1)=E (.string (f.data.extract 0 (f.safe+m))):=(by rw[xT i];rfl);have b2:W.cell? (U wr.1.size 2)=E (I (min (f.safe+m) f.data.size:Nat)):=(by rw[xT i];rfl);have q:=ze b.row;have t:=b.lt;have F:=L.size;have za:∀o:Obj,(W.alloc o).cell? (U w.1.size 0)=E (.slice a5 (yr m S.files k).length n):=fun o=>(((K W.1.size W).alloc (J _) o).cell (p:=(U w.1.size 0)) t).trans z0;have zb:∀o:Obj,(W.alloc o).cell? (U wr.1.size 0)=E (.string f.name):=fun o=>(((K W.1.size W).alloc (J _) o).cell (p:=(U wr.1.size 0)) (show wr.1.size<_ by omega)).trans b0;clear x Q x0 x1 x2;go_region_law (refine jr rfl (.tmp 46) (.tmp 48) rfl w.1.size _ (yr m S.files k) ⟨f.name,(f.data.extract 0 (f.safe+m)),min (f.safe+m) f.data.size⟩ (by simp[Act.eval]) (KE ((ud q).alloc _)) W.1.size (by simp[Act.eval];first|done|omega) (jj _ _) ?hll ?hbb ?_;(case hll=>omega);(case hbb=>(rw[KV];omega));intro X r w5 s d a0 M;have c:=Qw d;clear d;have D:zi (foot w.1.size (.slice a5 (yr m S.files k).length n)) W w5:=zi.grown ((zi.refl _ _).alloc _) c (fun k u _=> .inr u);have l:w5.1[w.1.size]?=W.1[w.1.size]?:=(c.block w.1.size (by rw[xU];omega) (fun e=>b.apart (by decide) e.symm)).trans (Below.heap_alloc _ _ _ t);have Q:=(World.cell?_of_block (a:=(U w.1.size 0)) l).trans z0;have d1:=(World.frozen?_of_block (a:=(U w.1.size 0)) l).trans z1;have z:Below w.1.size w w5:=(L.trans (j.mono F)).trans (((K _ _).alloc (by omega) _).grown c (by rw[xU];omega) (fun k u=>(b.row.lt k u).1)))
     all_goals
      go_wp2_with fail
      obtain⟨H,hK⟩:=b.setFiles (by decide) D l s
      have A:=z.setCell (p:=(U w.1.size 0)) (J _) (.slice (E (U X 0)) ((yr m S.files k).length+1) r)
      rw[<-ud R,<-ud HK]at H
      exact⟨⟨k+1,_,by omega,by go_num,H,A⟩,by simp[intOf];omega⟩
   ·have R:=ze (VX a2 hc);go_wp2_with fail;have j:Below wr.1.size wr (wr.alloc (.cells #[.string f.name,.string f.data,I (f.data.size:Nat)] 113)):=(K _ _).alloc (J _) _;have i:(wr.alloc (.cells #[.string f.name,.string f.data,I (f.data.size:Nat)] 113)).1[wr.1.size]?=E (.cells #[.string f.name,.string f.data,I (f.data.size:Nat)] 113 (0,0)):=heap_alloc_last _ _;have G:(wr.alloc (.cells #[.string f.name,.string f.data,I (f.data.size:Nat)] 113)).1.size=wr.1.size+1:=xU _ _;generalize x:(wr.alloc (.cells #[.string f.name,.string f.data,I (f.data.size:Nat)] 113))=W at j i G ⊢;have b:=C.later j;have z0:=b.c0;have z1:=b.free 0;have b0:W.cell? (U wr.1.size 0)=E (.string f.name):=(by rw[xT i];rfl);have b1:W.cell? (U wr.1.size 1)=E (.string f.data):=(by rw[xT i];rfl);have b2:W.cell? (U wr.1.size 2)=E (I (f.data.size:Nat)):=(by rw[xT i];rfl);have q:=ze b.row;have t:=b.lt;have F:=L.size;have za:∀o:Obj,(W.alloc o).cell? (U w.1.size 0)=E (.slice a5 (yr keep S.files k).length n):=fun o=>(((K W.1.size W).alloc (J _) o).cell (p:=(U w.1.size 0)) t).trans z0;have zb:∀o:Obj,(W.alloc o).cell? (U wr.1.size 0)=E (.string f.name):=fun o=>(((K W.1.size W).alloc (J _) o).cell (p:=(U wr.1.size 0)) (show wr.1.size<_ by omega)).trans b0;clear x Q x0 x1 x2;go_region_law (refine jr rfl (.tmp 46) (.tmp 48) rfl w.1.size _ (yr keep S.files k) ⟨f.name,f.data,f.data.size⟩ (by simp[Act.eval]) (KE ((ud q).alloc _)) W.1.size (by simp[Act.eval];first|done|omega) (jj _ _) ?hll ?hbb ?_;(case hll=>omega);(case hbb=>(rw[KV];omega));intro X r w5 s d a0 M;have c:=Qw d;clear d;have D:zi (foot w.1.size (.slice a5 (yr keep S.files k).length n)) W w5:=zi.grown ((zi.refl _ _).alloc _) c (fun k u _=> .inr u);have l:w5.1[w.1.size]?=W.1[w.1.size]?:=(c.block w.1.size (by rw[xU];omega) (fun e=>b.apart (by decide) e.symm)).trans (Below.heap_alloc _ _ _ t);have Q:=(World.cell?_of_block (a:=(U w.1.size 0)) l).trans z0;have d1:=(World.frozen?_of_block (a:=(U w.1.size 0)) l).trans z1;have z:Below w.1.size w w5:=(L.trans (j.mono F)).trans (((K _ _).alloc (by omega) _).grown c (by rw[xU];omega) (fun k u=>(b.row.lt k u).1)))
    all_goals
     go_wp2_with fail
     obtain⟨H,hK⟩:=b.setFiles (by decide) D l s
     have A:=z.setCell (p:=(U w.1.size 0)) (J _) (.slice (E (U X 0)) ((yr keep S.files k).length+1) r)
     rw[<-ud R,<-ud HK]at H
     exact⟨⟨k+1,_,by omega,by go_num,H,A⟩,by simp[intOf];omega⟩
  ·have e:k=S.files.length:=(by omega);rw[e,zfP]at C;have c0:=Y.c0;clear e;go_wp2_with fail;go_ret;exact⟨rfl,v,⟨C.head,hB,ZN C.row hB⟩,L,C.lt,fun k u=>(C.row.lt k u).1⟩
end Go.Proofs.YtndhpgciopcncaaGreatDoor
