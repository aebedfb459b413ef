import Derived.Test.YtndhpgciopcncaaGreatDoorYJrn0
import Derived.Deep.RegionHeld3
open Go.Value (int)
open Go.IntKind (i64)
set_option linter.unusedVariables false
set_option maxRecDepth 8000
set_option maxHeartbeats 4000000
open Go.Proofs.Tryz
namespace Go.Proofs.YtndhpgciopcncaaGreatDoor
open Go.RowKit Go.Shelf
def KN(S:DS)(st:Int):Bool:=decide (2*st+4096<(yN S yk).size)
theorem zav{S:DS}{N:Nat}(h:DOk S N)(b:ByteArray):(yN S b).size<=N:=by
 unfold yN
 cases c:xv S.files b with
 |none=>exact Nat.zero_le _
 |some i=>
  obtain⟨f,a,_,_⟩:=yw c
  simp only[a]
  exact(h.2.2.2 f (List.mem_of_getElem? a)).2
theorem zgC{w:World}{j d:Nat}{st:Int}{S:DS}{fs:Value}(h:JAt w j d st S fs)(N:Nat)(k:N<=1099511627776)(a:DOk S N)(f:0<=st/\st<=1099511627776):
  Calls prog 110 #[.pointer (some ⟨j,0,none⟩)] w fun e w'=>e=.returned (.bool (KN S st))/\Below w.1.size w w':=by
 have HR:=fun W (l:Below w.1.size w W)=>zd (KZ 0 d S fs yk W N k a.2.2.1 (h.disk.later l))
 have g:=zav a yk
 have p:w.cell? ⟨j,0,none⟩=some (.pointer (some ⟨d,0,none⟩)):=by rw[xK h.head];rfl
 have q:w.cell? ⟨j,1,none⟩=some (int i64 st):=by rw[xK h.head];rfl
 have m:=zb h.head
 obtain⟨t,i⟩:∃t,yN S yk=t:=⟨_,rfl⟩
 unfold KN
 rw[i]at g ⊢
 simp only[i]at HR
 unfold yk at HR
 have b:=HR w (Below.refl _ _)
 have c:=HR w.drew (Below.refl _ _).drew
 obtain⟨n,o⟩:=f
 clear h a HR i
 have r:IntKind.i64.wrap (2*st)=2*st:=by rw[IntKind.wrap_i64];omega
 have s:IntKind.i64.wrap (2*st+4096)=2*st+4096:=by rw[IntKind.wrap_i64];omega
 go_enter func110,ntmps110
 go_wp2_with fail
 go_region_held3 (fun w'=>w'.cell? ⟨j,0,none⟩=some (.pointer (some ⟨d,0,none⟩))/\w'.cell? ⟨j,1,none⟩=some (int i64 st)) (go_keep) (first
  |(go_at_call 128;(first|(with_reducible refine(ud b).mono ?_)|(with_reducible refine(ud c).mono ?_));rintro e V ⟨rfl,rfl⟩))
 all_goals go_wp2_with fail
 all_goals go_ret
 all_goals exact⟨by simp,(Below.refl _ _).drew⟩
def Vp:ByteArray:=⟨#[43]⟩
def Ym(S:DS):DS:=if zi S then zC S ym Vp else xq (zC S ym Vp) ym
def JR(S:DS):Bool:=!zi S&&!zi (zC S ym Vp)
def zdR(S:DS):Int:=if JR S then(yN (xq (zC S ym Vp) ym) ym).size else 0
theorem zdS{w:World}{d:Nat}{S:DS}{fs:Value}(h:zdC w d S fs)(N:Nat)(K:N+10<=1099511627776)(v:DOk S N):
  Calls prog 66 #[.pointer (some ⟨d,0,none⟩)] w fun e w'=>e=.returned (.tuple #[int i64 (zdR S),.bool (JR S)])/\∃a,zdC w' d (Ym S) a/\zk (foot d fs) w w'/\xL w fs a:=by
 have H:Vp.size=1:=rfl
 have p:=zd (ZX 0 d S fs ym Vp w N (by omega) v (by omega) (Nat.zero_le _) h)
 have m:DOk (zC S ym Vp) (N+1+1):=by have:=kX v ym Vp;rwa[H]at this
 have n:DOk (xq (zC S ym Vp) ym) (N+1+1+1):=XU m _
 have s:=fun W a (E:zdC W d (zC S ym Vp) a)=>zd (Vl 0 d (zC S ym Vp) a ym W _ (by omega) m E)
 have HR:=fun W a (E:zdC W d (xq (zC S ym Vp) ym) a)=>zd (KZ 0 d (xq (zC S ym Vp) ym) a ym W _ (by omega) n.2.2.1 E)
 have z:=zav n ym
 unfold zdR JR Ym
 generalize zC S ym Vp=G at*
 obtain⟨D,o⟩:∃D,xq G ym=D:=⟨_,rfl⟩
 have J:=zd o
 rw[o]at z ⊢
 simp only[o]at HR s
 obtain⟨t,F⟩:∃t,yN D ym=t:=⟨_,rfl⟩
 rw[F]at z ⊢
 simp only[F]at HR
 unfold ym Vp at p
 unfold ym at HR s
 clear v m n H F o
 cases x:zi S
 ·cases y:zi G
  ·simp only[x]at p
   simp only[y]at s
   clear h
   go_enter func66,ntmps66
   go_wp2_with(first
    |(go_at_call 126;refine(ud p).mono ?_;rintro e A ⟨rfl,b,c,f,g⟩;have u:=s A b c;have k:=zd f;have i:=zd g;clear c f g)
    |(go_at_call 127;refine(ud u).mono ?_;rintro e I ⟨rfl,j,l⟩;have C:=HR I b j;have q:=zd j;have r:=zd l;clear j l)
    |(go_at_call 128;refine(ud C).mono ?_;rintro e L ⟨rfl,rfl⟩))
   go_ret2
   exact⟨rfl,b,ud q,X9 (ud k) (ud i) (ud r),ud i⟩
  ·simp only[x]at p
   simp only[y]at s
   clear h HR
   go_enter func66,ntmps66
   go_wp2_with(first
    |(go_at_call 126;refine(ud p).mono ?_;rintro e A ⟨rfl,b,c,f,g⟩;have u:=s A b c;have k:=zd f;have i:=zd g;clear c f g)
    |(go_at_call 127;refine(ud u).mono ?_;rintro e I ⟨rfl,j,l⟩;have q:=zd j;have r:=zd l;clear j l))
   go_ret2
   exact⟨rfl,b,ud q,X9 (ud k) (ud i) (ud r),ud i⟩
 ·simp only[x]at p
  clear h HR s
  go_enter func66,ntmps66
  go_wp2_with(first
   |(go_at_call 126;refine(ud p).mono ?_;rintro e A ⟨rfl,b,c,f,g⟩;have B:=zd c;have k:=zd f;have i:=zd g;clear c f g))
  go_ret2
  exact⟨rfl,b,ud B,ud k,ud i⟩
def zhE(t:ByteArray):Nat:=(Lib.lastIndexByte t 10+1).toNat
theorem zii(t:ByteArray):Lib.lastIndexByte t 10=(zhE t:Int)-1/\zhE t<=t.size:=by
 unfold zhE Lib.lastIndexByte
 rcases Lib.lastIdx_spec t 10 t.size with⟨h,-⟩|⟨i,a,h,-⟩
 ·rw[h];exact⟨rfl,Nat.zero_le _⟩
 ·rw[h];constructor<;>omega
theorem zjX(s:ByteArray)(a:s.size<=1099511627776)(w:World):Calls prog 132 #[.string s,.int .u8 10] w fun e w'=>e=.returned (int i64 (Lib.lastIndexByte s 10))/\w'=w:=
 Any.strings_LastIndexByte Tryz.layLI s 10 (by omega) w
theorem zeu(s:ByteArray)(w:World):Calls prog 131 #[.string s] w fun e w'=>e=.returned (.func (.func 202) #[] #[.pointer (some ⟨w.1.size,0,none⟩)])/\w'=w.alloc (.cells #[.string s] 9):=by
 go_enter func131,ntmps131
 go_wp2_with fail
 go_ret
 exact⟨rfl,rfl⟩
theorem zaw{w:World}{d:Nat}{S:DS}{fs:Value}(h:zdC w d S fs)(N:Nat)(g:N<=1099511627776)(a:DOk S N):
  Calls prog 72 #[.pointer (some ⟨d,0,none⟩)] w fun e w'=>e=.returned (.func (.func 202) #[] #[.pointer (some ⟨w.1.size,0,none⟩)])/\w'=w.alloc (.cells #[.string ((yN S yk).extract 0 (zhE (yN S yk)))] 9):=by
 have HR:=zd (KZ 0 d S fs yk w N g a.2.2.1 h)
 have i:=zav a yk
 generalize yN S yk=t at*
 obtain⟨c,k⟩:=zii t
 have b:=zd (zjX t (by omega) w)
 rw[c]at b
 generalize zhE t=n at*
 have f:=zd (zeu (t.extract 0 n) w)
 unfold yk at HR
 clear h a c
 have j:((n:Int)-1+1)=n:=by omega
 go_enter func72,ntmps72
 go_wp2_with(first
  |(go_at_call 128;refine(ud HR).mono ?_;rintro e l ⟨rfl,rfl⟩)
  |(go_at_call 132;refine(ud b).mono ?_;rintro e m ⟨rfl,rfl⟩)
  |(go_at_call 131;refine(ud f).mono ?_;rintro e o ⟨rfl,rfl⟩))
 go_ret
 exact⟨rfl,rfl⟩
def yK(e:Nat):ByteArray:=⟨Array.replicate e 43⟩
theorem zcV(e:Nat):(yK e).size=e:=by simp[yK,ByteArray.size]
def jS(e:Nat)(txt:ByteArray):DS:=⟨[⟨ym,yK e,e⟩,⟨yk,txt,txt.size⟩],-1,false⟩
def jS0(e:Nat):DS:=⟨[⟨ym,yK e,e⟩],-1,false⟩
theorem bl(a:Array UInt8):(⟨a⟩:ByteArray).toList=a.toList:=by rw[ByteArray.toList_eq]
theorem X7(a:ByteArray):eqS a a=true:=by simp[eqS]
theorem zgh:eqS ym yk=false:=by simp[eqS,ym,yk,bl]
theorem zco:eqS ym yZ=false:=by simp[eqS,ym,yZ,bl]
theorem zjL:eqS yk yZ=false:=by simp[eqS,yk,yZ,bl]
theorem zjK:eqS yZ yk=false:=by simp[eqS,yk,yZ,bl]
theorem yh{S:DS}(h:S.left= -1)(a:S.down=false):zi S=false/\zh S=S:=by
 have b:zi S=false:=by unfold zi;rw[h,a];rfl
 refine⟨b,?_⟩
 obtain⟨f,l,d⟩:=S
 dsimp only at h a
 subst h a
 unfold zh;rw[b];rfl
theorem QV(e:Nat)(txt:ByteArray)(k:Nat)(r:List FS):xv (⟨ym,yK e,e⟩::⟨yk,txt,k⟩::r) yk=some 1:=by
 unfold xv xb xb;rw[zgh,X7];rfl
theorem zat(e:Nat)(txt:ByteArray)(k:Nat):xv [⟨ym,yK e,e⟩,⟨yk,txt,k⟩] yZ=none:=by
 unfold xv xb xb xb;rw[zco,zjL];rfl
theorem J2(e:Nat)(txt t2:ByteArray)(k a:Nat):xv [⟨ym,yK e,e⟩,⟨yk,txt,k⟩,⟨yZ,t2,a⟩] yZ=some 2:=by
 unfold xv xb xb xb;rw[zco,zjL,X7];rfl
theorem J3(e:Nat):xv [⟨ym,yK e,e⟩] yZ=none:=by
 unfold xv xb xb;rw[zco];rfl
theorem J4(e:Nat):xv [⟨ym,yK e,e⟩] yk=none:=by
 unfold xv xb xb;rw[zgh];rfl
theorem Kb(e:Nat)(t2:ByteArray)(a:Nat):xv [⟨ym,yK e,e⟩,⟨yZ,t2,a⟩] yZ=some 1:=by
 unfold xv xb xb;rw[zco,X7];rfl
theorem ziQ(e:Nat)(txt:ByteArray):yN (jS e txt) yk=txt:=by unfold yN jS;rw[QV];rfl
theorem zhf(e:Nat):yN (jS0 e) yk=⟨#[]⟩:=by unfold yN jS0;rw[J4]
theorem zjy{e N:Nat}{txt:ByteArray}(b:e<=N)(c:txt.size<=N)(d:2<=N):DOk (jS e txt) N:=by
 refine⟨by show(-1:Int)<= -1;omega,by show(-1:Int)<=9223372036854775807;omega,d,fun f a=>?_⟩
 simp only[jS,List.mem_cons,List.not_mem_nil,or_false]at a
 rcases a with rfl|rfl
 ·rw[zcV];exact⟨Nat.le_refl _,b⟩
 ·exact⟨Nat.le_refl _,c⟩
theorem zhI(e:Nat)(txt a:ByteArray):JI (jS e txt) a=jS e (txt++(a++nl))/\Z7 (jS e txt) a=true:=by
 obtain⟨c,g⟩:=yh (S:=jS e txt) rfl rfl
 have h:zC (jS e txt) yk (a++nl)=⟨[⟨ym,yK e,e⟩,⟨yk,txt++(a++nl),txt.size⟩],-1,false⟩:=by
  rw[yJ (i:=1) (f:=⟨yk,txt,txt.size⟩) c (QV e txt txt.size []) rfl,g];rfl
 obtain⟨b,d⟩:=yh (S:=⟨[⟨ym,yK e,e⟩,⟨yk,txt++(a++nl),txt.size⟩],-1,false⟩) rfl rfl
 unfold JI Z7
 rw[c,h,b]
 refine⟨?_,rfl⟩
 simp only[Bool.false_eq_true,if_false]
 rw[qo (i:=1) (f:=⟨yk,txt++(a++nl),txt.size⟩) b (QV e (txt++(a++nl)) txt.size []) rfl,d];rfl
theorem zkf(e:Nat)(txt a:ByteArray):zdj (jS e txt) a=jS e (a++nl)/\Yy (jS e txt) a=true/\zfV (jS e txt)=false:=by
 have b:xv (jS e txt).files yZ=none:=zat e txt txt.size
 have p:zfV (jS e txt)=false:=by unfold zfV;rw[b];rfl
 have h:Vq (jS e txt)=jS e txt:=by unfold Vq;rw[b];rfl
 obtain⟨c,l⟩:=yh (S:=jS e txt) rfl rfl
 have j:zbK (jS e txt) a=⟨[⟨ym,yK e,e⟩,⟨yk,txt,txt.size⟩,⟨yZ,a++nl,0⟩],-1,false⟩:=by
  unfold zbK;rw[h,qh c b,l];rfl
 obtain⟨d,m⟩:=yh (S:=⟨[⟨ym,yK e,e⟩,⟨yk,txt,txt.size⟩,⟨yZ,a++nl,0⟩],-1,false⟩) rfl rfl
 have k:zdi (jS e txt) a=⟨[⟨ym,yK e,e⟩,⟨yk,txt,txt.size⟩,⟨yZ,a++nl,(a++nl).size⟩],-1,false⟩:=by
  unfold zdi;rw[j,qo (i:=2) (f:=⟨yZ,a++nl,0⟩) d (J2 e txt _ _ _) rfl,m];rfl
 obtain⟨g,n⟩:=yh (S:=⟨[⟨ym,yK e,e⟩,⟨yk,txt,txt.size⟩,⟨yZ,a++nl,(a++nl).size⟩],-1,false⟩) rfl rfl
 have o:ziS (jS e txt) a=jS e (a++nl):=by
  unfold ziS
  rw[k,kS (i:=2) (f:=⟨yZ,a++nl,(a++nl).size⟩) g (J2 e txt _ _ _) rfl zjK,n]
  simp[yo,zgh,zco,X7,jS]
 unfold zdj Yy
 rw[p,h,j,k,c,d,g,o]
 exact⟨rfl,rfl,rfl⟩
theorem zfg(e:Nat)(a:ByteArray):zdj (jS0 e) a=jS e (a++nl)/\Yy (jS0 e) a=true/\zfV (jS0 e)=false:=by
 have b:xv (jS0 e).files yZ=none:=J3 e
 have p:zfV (jS0 e)=false:=by unfold zfV;rw[b];rfl
 have h:Vq (jS0 e)=jS0 e:=by unfold Vq;rw[b];rfl
 obtain⟨c,l⟩:=yh (S:=jS0 e) rfl rfl
 have j:zbK (jS0 e) a=⟨[⟨ym,yK e,e⟩,⟨yZ,a++nl,0⟩],-1,false⟩:=by
  unfold zbK;rw[h,qh c b,l];rfl
 obtain⟨d,m⟩:=yh (S:=⟨[⟨ym,yK e,e⟩,⟨yZ,a++nl,0⟩],-1,false⟩) rfl rfl
 have k:zdi (jS0 e) a=⟨[⟨ym,yK e,e⟩,⟨yZ,a++nl,(a++nl).size⟩],-1,false⟩:=by
  unfold zdi;rw[j,qo (i:=1) (f:=⟨yZ,a++nl,0⟩) d (Kb e _ _) rfl,m];rfl
 obtain⟨g,n⟩:=yh (S:=⟨[⟨ym,yK e,e⟩,⟨yZ,a++nl,(a++nl).size⟩],-1,false⟩) rfl rfl
 have o:ziS (jS0 e) a=jS e (a++nl):=by
  unfold ziS
  rw[k,kS (i:=1) (f:=⟨yZ,a++nl,(a++nl).size⟩) g (Kb e _ _) rfl zjK,n]
  simp[yo,zgh,zco,X7,jS]
 unfold zdj Yy
 rw[p,h,j,k,c,d,g,o]
 exact⟨rfl,rfl,rfl⟩
theorem zia:Ym ZE=jS0 1/\JR ZE=true/\zdR ZE=1:=by
 obtain⟨a,h⟩:=yh (S:=ZE) rfl rfl
 have b:zC ZE ym Vp=⟨[⟨ym,yK 1,0⟩],-1,false⟩:=by
  rw[qh a rfl,h];rfl
 obtain⟨c,j⟩:=yh (S:=⟨[⟨ym,yK 1,0⟩],-1,false⟩) rfl rfl
 have g:∀k,xv [⟨ym,yK 1,k⟩] ym=some 0:=fun k=>by unfold xv xb;rw[X7];rfl
 have d:xq ⟨[⟨ym,yK 1,0⟩],-1,false⟩ ym=jS0 1:=by
  rw[qo (i:=0) (f:=⟨ym,yK 1,0⟩) c (g 0) rfl,j];rfl
 have e:JR ZE=true:=by unfold JR;rw[b,a,c];rfl
 refine⟨by unfold Ym;rw[a,b,d];rfl,e,?_⟩
 unfold zdR
 rw[e,b,d]
 unfold yN jS0
 rw[g 1]
 rfl
end Go.Proofs.YtndhpgciopcncaaGreatDoor
