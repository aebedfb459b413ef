import Derived.Test.YtndhpgciopcncaaGreatDoorUStp2
import Derived.Deep.RegionHeld3
import Derived.Test.YtndhpgciopcncaaGreatDoorUStp9
open Go.Value renaming int → I
open Go.IntKind renaming i64 → J
open Go.IntKind renaming i32 → O
open Go.RowKit.Below renaming refl → E
open Nat renaming lt_of_lt_of_le → N
open Nat renaming le_refl → S
open Option renaming none → D
open Go.RowKit renaming Below → G
set_option linter.unusedVariables false
set_option maxRecDepth 100000
set_option maxHeartbeats 8000000
namespace Go.Proofs.YtndhpgciopcncaaGreatDoor
open Go.RowKit Go.Maps Go.Shelf
theorem zbR{A:Cl}{v:Int}(h:A.cnt=0):Qs A v=⟨A.cnt+1,wrap64 (A.sum+v),v,v⟩:=by simp[Qs,h]
theorem ziC{A:Cl}{v:Int}(h:¬A.cnt=0)(a:v<A.mn)(b:A.mx<v):Qs A v=⟨A.cnt+1,wrap64 (A.sum+v),v,v⟩:=by simp[Qs,a,b]
theorem ziD{A:Cl}{v:Int}(h:¬A.cnt=0)(a:v<A.mn)(b:¬A.mx<v):Qs A v=⟨A.cnt+1,wrap64 (A.sum+v),v,A.mx⟩:=by simp[Qs,h,a,b]
theorem ziE{A:Cl}{v:Int}(h:¬A.cnt=0)(a:¬v<A.mn)(b:A.mx<v):Qs A v=⟨A.cnt+1,wrap64 (A.sum+v),A.mn,v⟩:=by simp[Qs,h,a,b]
theorem ziF{A:Cl}{v:Int}(h:¬A.cnt=0)(a:¬v<A.mn)(b:¬A.mx<v):Qs A v=⟨A.cnt+1,wrap64 (A.sum+v),A.mn,A.mx⟩:=by simp[Qs,h,a,b]
theorem zdx{w:World}{B:Nat}{s:Shp}{c:Cf}{ep:Int}{m:MS}{sn:Int}{ns:List Nm}{ks:List Tok}{us:List Int}(h:zI w B s c ep m sn ns ks us)(hc:c.ok)(t:Int)(ht: -1<=t/\t<c.n)(sr wa:Int)(a3:∀x∈ns,0<=x.tm/\x.tm<=100000/\ -2147483648<=x.val/\x.val<=2147483647)(ar:ns.length<4398046511104):
  Calls Tryz.prog 85 #[.pointer (some ⟨s.p,0,D⟩),I J t,I J sr,I J wa] w fun e w'=>∃d:Cl,IsC (fun x=>x.sr=sr/\x.tm/c.wt t=wa) ns d/\e=.returned (.agg #[I J d.cnt,I J d.sum,I O d.mn,I O d.mx])/\G w.1.size w w':=by
 obtain⟨b2,b3,a7,bz⟩:=box2 w (.cells #[I J 0,I J 0,I O 0,I O 0] 115) (.cells #[I J 0,I J 0,I O 0,I O 0] 115)
 have B2:=zd b2
 have B3:=zd b3
 have BZ:=zd bz
 have a5:=zd a7
 have H0:=zd h
 have Q:=hc.wt ht.1 ht.2
 obtain⟨an,cn,o⟩:=zS h.nrow
 have au:=h.lt
 clear h b2 b3 bz a7
 go_enter Tryz.func85,Tryz.ntmps85
 go_wp2_with fail
 generalize((w.alloc (.cells #[I J 0,I J 0,I O 0,I O 0] 115)).alloc (.cells #[I J 0,I J 0,I O 0,I O 0] 115))=W at*
 go_loopw [10,11] (fun y _ wr=>∃(k:Nat) (A:Cl),k<=ns.length/\y=I J k/\IsC (fun x=>x.sr=sr/\x.tm/c.wt t=wa) (ns.take k) A/\wr.1[w.1.size+1]?=some (Xp A)/\G (w.1.size+1) W wr) (fun y _ _=>ns.length-(intOf y).toNat)
 case atStart=>exact⟨0,xY,Nat.zero_le _,rfl,IsC.zero (fun x hx=>by simp at hx),ud B3,E _ _⟩
 case round=>
  obtain⟨k,A,hk,rfl,hA,L,hb⟩:=hrel
  have F:G w.1.size w wr:=(ud a5).trans (hb.mono (by omega))
  have hS:zI wr B s c ep m sn ns ks us:=(ud H0).later F
  obtain⟨-,-,-,-,-,-,-,C,-,-⟩:=hS.cells
  rw[o]at C
  have az:=hS.lt
  have ag:=za L
  have aA:w.1.size<wr.1.size:=by omega
  have ax:(ns.length:Int)<4398046511104:=by omega
  have HS:=zd hS
  have R:=zd hb
  have ab:=zd F
  have Y:=zd hA
  have av:=zd L
  by_cases aj:k<ns.length
  ·obtain⟨x,hx⟩:=ja aj
   obtain⟨x1,x2,x3,x4⟩:=a3 x (List.mem_of_getElem? hx)
   have a0:=hS.nrow
   rw[o]at a0
   obtain⟨g,aq,hv,_,M,y0,y1,y2⟩:=zjb a0 hx
   have al:an=some ⟨g,0,D⟩:=by injection hv
   subst al
   have aw:(k:Int)<ns.length:=by omega
   have a9:=hA.cnt
   have a8:=qL (P:=fun x:Nm=>x.sr=sr/\x.tm/c.wt t=wa) (ns.take k)
   rw[List.length_take,Nat.min_eq_left hk]at a8
   have a1:0<=A.cnt:=by omega
   have a2:A.cnt<=k:=by omega
   have HX:=zd hx
   have aa:ns.take (k+1)=ns.take k++[x]:=by
    obtain⟨ai,ao⟩:=List.getElem?_eq_some_iff.1 hx
    rw[List.take_succ_eq_append_getElem ai,ao]
   have z:=zd aa
   clear aa
   have a4:=zm wr (.cells #[I J x.sr,I J x.tm,I O x.val] 87)
   have X:G wr.1.size wr (wr.alloc (.cells #[I J x.sr,I J x.tm,I O x.val] 87)):=(E _ _).alloc (S _) _
   have q2:=(X.block (w.1.size+1) ag).trans L
   have a6:=hS.later X
   have b:=zd X
   have u:=zd q2
   have f:=fun W (e:W=(wr.alloc (.cells #[I J x.sr,I J x.tm,I O x.val] 87)).drew)=>zd (e▸QW (a6.later (E _ _).drew) hc t ht.1 ht.2)
   obtain⟨n0,n1,n2,-⟩:=zc a4
   have nz:=za a4
   have cz:=za q2
   obtain⟨d0,d1,d2,d3,-⟩:=zc q2
   have df:∀j,(wr.alloc (.cells #[I J x.sr,I J x.tm,I O x.val] 87)).frozen? ⟨w.1.size+1,j,D⟩=false:=fun j=>zE q2 j
   have i:IntKind.i64.wrap (x.tm.tdiv (c.wt t))=x.tm/c.wt t:=by
    have V:x.tm/c.wt t<=x.tm:=Int.ediv_le_self _ x1
    have U:0<=x.tm/c.wt t:=Int.ediv_nonneg x1 (by omega)
    rw[Int.tdiv_eq_ediv_of_nonneg x1,IntKind.wrap_i64];omega
   have H:¬c.wt t=0:=by omega
   have ak:¬w.1.size+1=wr.1.size:=by omega
   clear hS hb F hA L hx a0 hv a4 X q2 a6 a9 a8 a3
   by_cases hs:x.sr=sr
   ·subst hs
    have r:(x.sr !=x.sr)=false:=by simp
    by_cases hw:x.tm/c.wt t=wa
    ·subst hw
     have am:(x.tm/c.wt t !=x.tm/c.wt t)=false:=by simp
     by_cases T:A.cnt=0
     ·have ap:(A.cnt==0)=true:=by simp[T]
      have l:=zd (zbR (v:=x.val) T)
      clear T
      go_wp2_with fail
      generalize(wr.alloc (.cells #[I J x.sr,I J x.tm,I O x.val] 87))=Z at*
      refine yN (by kernel_rfl) (by kernel_rfl) ?_
      iterate 9 ((with_reducible refine wpStill_step (fun K a=>?_));go_simp;(with_reducible refine a _ ?_);clear a K)
      still_call (ud (f _ rfl))
      iterate 4 ((with_reducible refine wpStill_step (fun K a=>?_));go_simp;(with_reducible refine a _ ?_);clear a K)
      refine wpStill_nil ?_
      clear f i n0 n1 r y0 y1 y2 C H o Q M
      go_wp2_with fail
      go_roundw
      case rel=>
       refine⟨k+1,Qs A x.val,by omega,by go_num,?_,?_,?_⟩
       ·rw[ud z];exact(ud Y).add ⟨rfl,rfl⟩
       ·rw[ud l];exact ziN (ud u) _ _ _ _
       ·(try refine Below.drew ?_)
        repeat(refine kQ ?_ (S _))
        first|exact((ud R).trans ((ud b).mono (by omega))).drew|exact(ud R).trans ((ud b).mono (by omega))
      case measure=>simp[intOf];omega
     ·have ap:(A.cnt==0)=false:=by simp[T]
      by_cases V:x.val<A.mn
      ·by_cases U:A.mx<x.val
       ·have l:=zd (ziC (v:=x.val) T V U)
        clear T
        go_wp2_with fail
        generalize(wr.alloc (.cells #[I J x.sr,I J x.tm,I O x.val] 87))=Z at*
        refine yN (by kernel_rfl) (by kernel_rfl) ?_
        iterate 9 ((with_reducible refine wpStill_step (fun K a=>?_));go_simp;(with_reducible refine a _ ?_);clear a K)
        still_call (ud (f _ rfl))
        iterate 4 ((with_reducible refine wpStill_step (fun K a=>?_));go_simp;(with_reducible refine a _ ?_);clear a K)
        refine wpStill_nil ?_
        clear f i n0 n1 r y0 y1 y2 C H o Q M
        go_wp2_with fail
        go_roundw
        case rel=>
         refine⟨k+1,Qs A x.val,by omega,by go_num,?_,?_,?_⟩
         ·rw[ud z];exact(ud Y).add ⟨rfl,rfl⟩
         ·rw[ud l];exact ziN (ud u) _ _ _ _
         ·(try refine Below.drew ?_)
          repeat(refine kQ ?_ (S _))
          first|exact((ud R).trans ((ud b).mono (by omega))).drew|exact(ud R).trans ((ud b).mono (by omega))
        case measure=>simp[intOf];omega
       ·have l:=zd (ziD (v:=x.val) T V U)
        clear T
        have af:decide (A.mx<x.val)=false:=by simpa using U
        clear U
        go_wp2_with fail
        generalize(wr.alloc (.cells #[I J x.sr,I J x.tm,I O x.val] 87))=Z at*
        refine yN (by kernel_rfl) (by kernel_rfl) ?_
        iterate 9 ((with_reducible refine wpStill_step (fun K a=>?_));go_simp;(with_reducible refine a _ ?_);clear a K)
        still_call (ud (f _ rfl))
        iterate 4 ((with_reducible refine wpStill_step (fun K a=>?_));go_simp;(with_reducible refine a _ ?_);clear a K)
        refine wpStill_nil ?_
        clear f i n0 n1 r y0 y1 y2 C H o Q M
        go_wp2_with fail
        go_roundw
        case rel=>
         refine⟨k+1,Qs A x.val,by omega,by go_num,?_,?_,?_⟩
         ·rw[ud z];exact(ud Y).add ⟨rfl,rfl⟩
         ·rw[ud l];exact cl_2 (ud u) _ _ _
         ·(try refine Below.drew ?_)
          repeat(refine kQ ?_ (S _))
          first|exact((ud R).trans ((ud b).mono (by omega))).drew|exact(ud R).trans ((ud b).mono (by omega))
        case measure=>simp[intOf];omega
      ·by_cases U:A.mx<x.val
       ·have l:=zd (ziE (v:=x.val) T V U)
        clear T
        have ae:decide (x.val<A.mn)=false:=by simpa using V
        clear V
        go_wp2_with fail
        generalize(wr.alloc (.cells #[I J x.sr,I J x.tm,I O x.val] 87))=Z at*
        refine yN (by kernel_rfl) (by kernel_rfl) ?_
        iterate 9 ((with_reducible refine wpStill_step (fun K a=>?_));go_simp;(with_reducible refine a _ ?_);clear a K)
        still_call (ud (f _ rfl))
        iterate 4 ((with_reducible refine wpStill_step (fun K a=>?_));go_simp;(with_reducible refine a _ ?_);clear a K)
        refine wpStill_nil ?_
        clear f i n0 n1 r y0 y1 y2 C H o Q M
        go_wp2_with fail
        go_roundw
        case rel=>
         refine⟨k+1,Qs A x.val,by omega,by go_num,?_,?_,?_⟩
         ·rw[ud z];exact(ud Y).add ⟨rfl,rfl⟩
         ·rw[ud l];exact cl_3 (ud u) _ _ _
         ·(try refine Below.drew ?_)
          repeat(refine kQ ?_ (S _))
          first|exact((ud R).trans ((ud b).mono (by omega))).drew|exact(ud R).trans ((ud b).mono (by omega))
        case measure=>simp[intOf];omega
       ·have l:=zd (ziF (v:=x.val) T V U)
        clear T
        have ae:decide (x.val<A.mn)=false:=by simpa using V
        have af:decide (A.mx<x.val)=false:=by simpa using U
        clear V U
        go_wp2_with fail
        generalize(wr.alloc (.cells #[I J x.sr,I J x.tm,I O x.val] 87))=Z at*
        refine yN (by kernel_rfl) (by kernel_rfl) ?_
        iterate 9 ((with_reducible refine wpStill_step (fun K a=>?_));go_simp;(with_reducible refine a _ ?_);clear a K)
        still_call (ud (f _ rfl))
        iterate 4 ((with_reducible refine wpStill_step (fun K a=>?_));go_simp;(with_reducible refine a _ ?_);clear a K)
        refine wpStill_nil ?_
        clear f i n0 n1 r y0 y1 y2 C H o Q M
        go_wp2_with fail
        go_roundw
        case rel=>
         refine⟨k+1,Qs A x.val,by omega,by go_num,?_,?_,?_⟩
         ·rw[ud z];exact(ud Y).add ⟨rfl,rfl⟩
         ·rw[ud l];exact cl_0 (ud u) _ _
         ·(try refine Below.drew ?_)
          repeat(refine kQ ?_ (S _))
          first|exact((ud R).trans ((ud b).mono (by omega))).drew|exact(ud R).trans ((ud b).mono (by omega))
        case measure=>simp[intOf];omega
    ·have am:(x.tm/c.wt t !=wa)=true:=by simpa using hw
     have ad:=zd hw
     clear hw
     go_wp2_with fail
     generalize(wr.alloc (.cells #[I J x.sr,I J x.tm,I O x.val] 87))=Z at*
     refine yN (by kernel_rfl) (by kernel_rfl) ?_
     iterate 9 ((with_reducible refine wpStill_step (fun K a=>?_));go_simp;(with_reducible refine a _ ?_);clear a K)
     still_call (ud (f _ rfl))
     iterate 4 ((with_reducible refine wpStill_step (fun K a=>?_));go_simp;(with_reducible refine a _ ?_);clear a K)
     refine wpStill_nil ?_
     clear f i n0 n1 r y0 y1 y2 C H o Q M
     go_wp2_with fail
     refine⟨⟨k+1,A,by omega,by go_num,?_,ud u,((ud R).trans ((ud b).mono (by omega))).drew⟩,by simp[intOf];omega⟩
     rw[ud z];exact(ud Y).skip (fun e=>ud ad e.2)
   ·have r:(x.sr !=sr)=true:=by simpa using hs
    have ac:=zd hs
    clear hs
    go_wp2_with fail
    generalize(wr.alloc (.cells #[I J x.sr,I J x.tm,I O x.val] 87))=Z at*
    refine yN (by kernel_rfl) (by kernel_rfl) ?_
    iterate 5 ((with_reducible refine wpStill_step (fun K a=>?_));go_simp;(with_reducible refine a _ ?_);clear a K)
    (try simp only[r])
    iterate 8 ((with_reducible refine Jj (by kernel_rfl) ?_);(try simp only[Act.put,List.setIfInBounds_toArray,List.set_cons_zero,List.set_cons_succ]))
    iterate 1 ((with_reducible refine wpStill_step (fun K a=>?_));go_simp;(with_reducible refine a _ ?_);clear a K)
    refine wpStill_nil ?_
    go_wp2_with fail
    refine⟨⟨k+1,A,by omega,by go_num,?_,ud u,((ud R).trans ((ud b).mono (by omega))).drew⟩,by simp[intOf];omega⟩
    rw[ud z];exact(ud Y).skip (fun e=>ud ac e.1)
  ·have ah:k=ns.length:=by omega
   subst ah
   have ay:decide ((ns.length:Int)<ns.length)=false:=by simp
   have hd:=L
   obtain⟨d0,d1,d2,d3,-⟩:=zc hd
   have q:=(hb.block w.1.size (by omega)).trans (ud B2)
   obtain⟨d4,d5,d6,d7,-⟩:=zc q
   have df:∀j,wr.frozen? ⟨w.1.size,j,D⟩=false:=fun j=>zE q j
   have Q1:=zd q
   have ak:¬w.1.size+1=w.1.size:=by omega
   clear q hd L hb hS F hA a3
   go_wp2_with fail
   have hf:=set4 (ud Q1) (I J A.cnt) (I J A.sum) (I O A.mn) (I O A.mx)
   have hA:=ud Y
   rw[List.take_length]at hA
   refine bodyPost_ret (v:=.agg #[I J A.cnt,I J A.sum,I O A.mn,I O A.mx]) (results_cell_row Tryz.results85 _ _ w.1.size _ _ _ _ rfl hf Tryz.underlying115 rfl (by kernel_rfl)) rfl ⟨A,hA,rfl,?_⟩
   refine(ud ab).trans ?_
   repeat(refine kQ ?_ (S _))
   exact E _ _
theorem zcu{tm wd:Int}(f:0<=tm)(g:tm<=100000)(h:1<=wd/\wd<=1000):0<=tm/wd/\tm/wd<=100000/\0<=(tm/wd+1)*wd/\(tm/wd+1)*wd<=101000:=by
 have a:=Int.ediv_nonneg f (show 0<=wd by omega)
 have b:tm/wd<=tm:=Int.ediv_le_self _ f
 have c:=Int.ediv_mul_le tm (show wd≠0 by omega)
 have d:(tm/wd+1)*wd=tm/wd*wd+wd:=by rw[Int.add_mul,Int.one_mul]
 have e:=Int.mul_nonneg a (show 0<=wd by omega)
 omega
theorem zdJ{w:World}{B:Nat}{s:Shp}{c:Cf}{ep:Int}{m:MS}{ns:List Nm}{ks:List Tok}{us:List Int}(h:zI w B s c ep m m.now ns ks us)(F:c.ok)(hf:c.fits)(hm:MOk c ep m)(hi:vy c m ns)(aP:ns.length<4398046511104)(x:Nm)(hx:x∈ns)(t:Int)(H: -1<=t/\t<c.n)(C:Bool)
  (ak:C=true->(xB c m.now m.Gl m.L t x.sr (x.tm/c.wt t)).2≠11/\((xB c m.now m.Gl m.L t x.sr (x.tm/c.wt t)).2=0->(x.tm/c.wt t+1)*c.wt t+c.keep t<=m.now->Y3 c m t x)):
  Calls Tryz.prog 42 #[.pointer (some ⟨s.p,0,D⟩),I J t,.agg #[I J x.sr,I J x.tm,I O x.val],.bool C] w fun e w'=>e=.returned (.bool true)/\G w.1.size w w':=by
 obtain⟨x1,x2,x3,x4,x5,x6⟩:=hi.tm x hx
 have a7:=hm.now
 have aU:=F.wt H.1 H.2
 obtain⟨w1,w2,w3,w4⟩:=zcu (tm:=x.tm) (wd:=c.wt t) x1 (by omega) aU
 have hT:=hi.told F hf hm hx H.1 H.2
 have aQ:∀y∈ns,0<=y.tm/\y.tm<=100000/\ -2147483648<=y.val/\y.val<=2147483647:=fun y hy=>by have:=hi.tm y hy;omega
 have aw:G w.1.size w (w.alloc (.cells #[I J x.sr,I J x.tm,I O x.val] 87)):=(E _ _).alloc (S _) _
 have q0:=zm w (.cells #[I J x.sr,I J x.tm,I O x.val] 87)
 have hS:=h.later aw
 have HS:=zd hS
 have b5:=zd aw
 have Q0:=zd q0
 have aC:=za q0
 obtain⟨n0,n1,-⟩:=zc q0
 have aq:=fun W (e:G (w.alloc (.cells #[I J x.sr,I J x.tm,I O x.val] 87)).1.size (w.alloc (.cells #[I J x.sr,I J x.tm,I O x.val] 87)) W)=>zd (QW (hS.later e) F t H.1 H.2)
 have aS:IntKind.i64.wrap (x.tm.tdiv (c.wt t))=x.tm/c.wt t:=by rw[Int.tdiv_eq_ediv_of_nonneg x1,IntKind.wrap_i64];omega
 have bn:¬c.wt t=0:=by omega
 have HT:=zd hT
 have b:=zd ak
 have b6:=zd aQ
 have HI:=zd hi
 clear h hT ak aQ aw q0 hS hi hm hf
 go_enter Tryz.func42,Tryz.ntmps42
 go_wp2_with fail
 generalize(w.alloc (.cells #[I J x.sr,I J x.tm,I O x.val] 87))=X at*
 refine yN (by kernel_rfl) (by kernel_rfl) ?_
 iterate 4 ((with_reducible refine wpStill_step (fun K hK=>?_));go_simp;(with_reducible refine hK _ ?_);clear hK K)
 still_call (ud (aq _ (E _ _).drew))
 iterate 2 ((with_reducible refine wpStill_step (fun K hK=>?_));go_simp;(with_reducible refine hK _ ?_);clear hK K)
 refine wpStill_nil ?_
 generalize aV:x.tm/c.wt t=wn at*
 have ar:=zd aV
 clear aV aS
 obtain⟨en,ae⟩:∃en,(wn+1)*c.wt t=en:=⟨_,rfl⟩
 rw[ae]at w3 w4 b
 have u:wrap64 ((wn+1)*c.wt t)=en:=by rw[ae];unfold wrap64;omega
 have aG:=zd ae
 have ai:=zd u
 clear ae u
 have ad:=ud HS
 obtain⟨aL,-,-,aM,-,-,aN,-,-,-⟩:=ad.cells
 have aR:=ad.lt
 go_wp2_with fail
 refine(ud (aq _ (E _ _).drew)).mono ?_
 rintro e V0 ⟨rfl,rfl⟩
 generalize au:xB c m.now m.Gl m.L t x.sr wn=Q at*
 have ac:=zd (ad.later (E _ _).drew)
 have aK:Hid (G X.1.size X X.drew):=(E _ _).drew
 have aI:=zd aC
 have bi:X.drew.1.size=X.1.size:=rfl
 clear ad aU bi
 have c0:X.drew.cell? ⟨s.p,0,D⟩=some (.pointer (some ⟨s.i.x,0,D⟩)):=aL
 have c4:X.drew.cell? ⟨s.p,4,D⟩=some (I J c.la):=aM
 have c9:X.drew.cell? ⟨s.p,9,D⟩=some (I J m.now):=aN
 have ah:X.drew.cell? ⟨w.1.size,0,D⟩=some (I J x.sr):=n0
 have f:s.p<X.drew.1.size:=aR
 have o:w.1.size<X.drew.1.size:=aC
 have am:Hid (G w.1.size w X.drew):=(ud b5).drew
 clear aL aM aN n0 n1 aR aC HS aq
 generalize X.drew=U at*
 go_wp2_with fail
 have u:=ud ai
 simp only[u]
 clear u ai
 have ax:G U.1.size U (U.alloc (.cells #[I J 0,I J 0,I O 0,I O 0] 115)).drew:=((E _ _).alloc (S _) _).drew
 have aW:U.1.size<(U.alloc (.cells #[I J 0,I J 0,I O 0,I O 0] 115)).drew.1.size:=by show U.1.size<(U.alloc (.cells #[I J 0,I J 0,I O 0,I O 0] 115)).1.size;rw[zL];omega
 have aO:(U.alloc (.cells #[I J 0,I J 0,I O 0,I O 0] 115)).drew.1[U.1.size]?=some (.cells #[I J 0,I J 0,I O 0,I O 0] 115 (0,0)):=zm U _
 have ab:=zd (yT ((ud ac).later ax).mill F a7 t x.sr wn H ⟨x3,x4⟩ ⟨w1,w2⟩)
 have a9:=zd (yT ((ud ac).later (E _ _).drew).mill F a7 t x.sr wn H ⟨x3,x4⟩ ⟨w1,w2⟩)
 rw[au]at ab a9
 have bl:=zd au
 have al:=zd ax
 have aF:=zd aO
 have bf:¬s.p=U.1.size:=by omega
 have aT:¬w.1.size=U.1.size:=by omega
 clear ax aO au
 obtain⟨⟨Q1,P,R,T⟩,QE⟩:=Q
 dsimp only at ab a9 b
 rename_i K1 hK1
 refine(fun aj:∀(z:Nat) (Y:World),U.1.size<=z->Y.1[z]?=some (Xp ⟨Q1,P,R,T⟩)->G U.1.size U Y->K1 ((?aa:Nat->Act) z) Y=>?main) ?F
 case main=>
  have Z:=zd aj
  clear aj
  go_region_held3 (fun w'=>w'.cell? ⟨s.p,0,D⟩=some (.pointer (some ⟨s.i.x,0,D⟩))/\w'.cell? ⟨w.1.size,0,D⟩=some (I J x.sr)) (first|go_keep|exact⟨(vo (by assumption)).trans (by assumption),(vo (by assumption)).trans (by assumption)⟩) (first
   |(go_at_call 57;(with_reducible refine(ud ab).mono ?_);rintro e V ⟨rfl,M⟩;have a:G U.1.size U V:=(ud al).trans (M.mono (ud al).size);have ag:=(M.block U.1.size aW).trans (ud aF);obtain⟨z0,z1,z2,z3,-⟩:=zc ag;have zf:=fun j=>zE ag j;have v0:=(a.cell (p:=⟨s.p,0,D⟩) f).trans c0;have v1:=(a.cell (p:=⟨w.1.size,0,D⟩) o).trans ah;have vl:=N f a.size;have vq:=N o a.size;have g:=zd a;have b9:=zd ag;clear a M ag)
   |(go_at_call 57;(with_reducible refine(ud a9).mono ?_);rintro e V ⟨rfl,M⟩;have a:G U.1.size U V:=Qu M;have v0:=(a.cell (p:=⟨s.p,0,D⟩) f).trans c0;have v1:=(a.cell (p:=⟨w.1.size,0,D⟩) o).trans ah;have vl:=N f a.size;have vq:=N o a.size;have bo:¬s.p=V.1.size:=(by omega);have bp:¬w.1.size=V.1.size:=(by omega);have g:=zd a;clear a M))
  all_goals(first
   |(have hP:=(ud g).alloc (ud g).size (.cells #[I J Q1,I J P,I O R,I O T] 115);have hR:=zm V (.cells #[I J Q1,I J P,I O R,I O T] 115);have hL:=(ud g).size;generalize(V.alloc (.cells #[I J Q1,I J P,I O R,I O T] 115))=Y at hP hR ⊢;generalize V.1.size=z at hR hL ⊢;exact ud Z z Y hL hR hP)
   |(have hP:=zce (ud g) (S U.1.size) (I J Q1) (I J P) (I O R) (I O T);have hR:=YL (ud b9) (I J Q1) (I J P) (I O R) (I O T);have hL:=S U.1.size;generalize((((V.setCell ⟨U.1.size,0,D⟩ (I J Q1)).setCell ⟨U.1.size,1,D⟩ (I J P)).setCell ⟨U.1.size,2,D⟩ (I O R)).setCell ⟨U.1.size,3,D⟩ (I O T))=Y at hP hR ⊢;have CL:=zd (ud Z);generalize bq:U.1.size=z at hR hL ⊢;exact ud Z z Y (by omega) hR hP))
 case F=>
  intro z Y bm hR q
  refine hK1 _ _ ?_
  clear a9 ab al aF aW
  have av:=(ud ac).later q
  have y4:=(q.cell (p:=⟨s.p,4,D⟩) f).trans c4
  have y9:=(q.cell (p:=⟨s.p,9,D⟩) f).trans c9
  have aZ:=N f q.size
  have bd:0<=c.keep t/\c.keep t<=1000:=by
   unfold Cf.keep
   split
   ·exact F.ke
   ·exact F.K _ (by omega)
  obtain⟨k1,k2⟩:=bd
  obtain⟨aX,aY⟩:=a7
  obtain⟨br,bs⟩:=F.la
  have aH:=zd (zdE (av.later (E _ _).drew.drew) F t H.1 H.2)
  have aJ:=zd av
  have HR:=zd hR
  have an:=zd q
  have y0:=(q.cell (p:=⟨w.1.size,0,D⟩) o).trans ah
  have b4:=N o q.size
  have Y0:=zd y0
  clear av hR q c0 c4 c9 ah f o bf aT y0
  go_wp2_with fail
  go_still (by kernel_rfl)
  go_wp2_with fail
  refine yN (by kernel_rfl) (by kernel_rfl) ?_
  iterate 3 ((with_reducible refine wpStill_step (fun K hK=>?_));go_simp;(with_reducible refine hK _ ?_);clear hK K)
  still_call (ud aH)
  iterate 7 ((with_reducible refine wpStill_step (fun K hK=>?_));go_simp;(with_reducible refine hK _ ?_);clear hK K)
  refine wpStill_nil ?_
  clear aH y4 y9
  have e1:IntKind.i64.wrap (m.now-c.la)=m.now-c.la:=by rw[IntKind.wrap_i64];omega
  have e2:IntKind.i64.wrap (en+c.keep t)=en+c.keep t:=by rw[IntKind.wrap_i64];omega
  simp only[e1,e2]
  clear e1 e2
  have r:c.clo m.now (zB c t x)↔en<=m.now-c.la:=by
   unfold Cf.clo zB
   dsimp only
   rw[ud ar,ud aG]
  have y0:Y.drew.drew.cell? ⟨w.1.size,0,D⟩=some (I J x.sr):=ud Y0
  have bg:w.1.size<Y.drew.drew.1.size:=b4
  have bk:s.p<Y.drew.drew.1.size:=aZ
  have ap:Hid (Y.drew.drew.1[z]?=some (Xp ⟨Q1,P,R,T⟩)):=ud HR
  have l:Hid (G w.1.size w Y.drew.drew):=(ud am).trans (((ud an).drew.drew).mono (ud am).size)
  have ao:Hid (Y.drew.drew.1[w.1.size]?=some (.cells #[I J x.sr,I J x.tm,I O x.val] 87 (0,0))):=((ud an).drew.drew.block _ (N (ud aI) (ud aK).size)).trans ((ud aK).block _ (ud aI)|>.trans (ud Q0))
  have A:=zd ((ud aJ).later (E _ _).drew.drew)
  clear Y0 b4 aZ HR an aJ ac am
  have hT:=ud HT
  clear HT
  generalize af:en+c.keep t=ek at*
  rcases hT with⟨h1,h2⟩|⟨h1,h2,h3⟩|⟨h1,h2,h3⟩|⟨h1,h2,h3,h4⟩
  ·injection h2 with a4 a5
   subst a5
   have v:decide (en<=m.now-c.la)=false:=by simpa using fun e=>h1 (r.2 e)
   simp only[v]
   clear r h1 a4 af b
   go_wp2_with fail
   go_ret
   exact⟨rfl,ud l⟩
  ·subst h2
   have v:decide (en<=m.now-c.la)=true:=by simpa using r.1 h1
   simp only[v]
   clear r h1
   have HC:=zd (zdx (ud A) F t H x.sr wn (ud b6) aP)
   have b8:Hid (C=true->ek<=m.now->Y3 c m t x):=fun h=>(ud b h).2 rfl
   clear b
   have H3:Hid (IsC (fun y=>y.sr=x.sr/\y.tm/c.wt t=wn) ns ⟨Q1,P,R,T⟩):=h3.congr (fun y _=>by
    unfold zB
    simp only[Sg.mk.injEq,true_and,ud ar])
   clear h3
   go_wp2_with fail
   refine(ud HC).mono ?_
   rintro e V ⟨d,hd,rfl,a⟩
   have bc:d=⟨Q1,P,R,T⟩:=hd.one (ud H3)
   subst bc
   dsimp only
   clear hd HC H3
   have a6:G Y.drew.drew.1.size Y.drew.drew (V.alloc (.cells #[I J Q1,I J P,I O R,I O T] 115)):=a.alloc a.size _
   have aD:=(a6.block z (za (ud ap))).trans (ud ap)
   have az:=zm V (.cells #[I J Q1,I J P,I O R,I O T] 115)
   have aA:=(a6.block w.1.size bg).trans (ud ao)
   obtain⟨a0,a1,a2,a3,-⟩:=zc aD
   obtain⟨b0,b1,b2,b3,-⟩:=zc az
   obtain⟨n0,n1,n2,-⟩:=zc aA
   have lz:=za aD
   have ld:=za az
   have ln:=za aA
   have b7:=zd ((ud A).later a6)
   have g:=zd ((ud l).trans (a6.mono (ud l).size))
   clear a6 aD az aA a y0 A l ao ap
   cases C with
   |false=>
    go_wp2_with fail
    go_ret
    exact⟨rfl,ud g⟩
   |true=>
    by_cases a8:ek<=m.now
    ·have aB:decide (ek<=m.now)=true:=by simpa using a8
     have bh:Y3 c m t x:=by
      have h:=ud b8
      first|exact h rfl a8|exact h a8
     have HW:=zd (QV (ud b7) F ⟨aX,aY⟩ t H x ⟨x1,by omega⟩ ⟨x3,x4⟩)
     go_wp2_with fail
     refine(ud HW).mono ?_
     rintro e V2 ⟨⟨bb,rfl,hbb⟩,a⟩
     have ay:bb=true:=hbb.2 bh
     subst ay
     have aE:=zd ((ud g).trans (a.mono (ud g).size))
     clear a HW hbb
     go_wp2_with fail
     go_ret
     exact⟨rfl,ud aE⟩
    ·have aB:decide (ek<=m.now)=false:=by simpa using a8
     clear a8
     go_wp2_with fail
     go_ret
     exact⟨rfl,ud g⟩
  ·injection h2 with a4 a5
   subst a5
   have v:decide (en<=m.now-c.la)=true:=by simpa using r.1 h1
   have ba:C=false:=by
    cases C with
    |false=>rfl
    |true=>exact absurd rfl (ud b rfl).1
   subst ba
   simp only[v]
   clear r h1 a4 af b
   go_wp2_with fail
   go_ret
   exact⟨rfl,ud l⟩
  ·injection h2 with a4 a5
   subst a5
   have v:decide (en<=m.now-c.la)=true:=by simpa using r.1 h1
   have aB:decide (ek<=m.now)=true:=by
    have:ek<=m.now:=by
     rw[<-af,<-ud aG,<-ud ar];exact h3
    simpa using this
   have be:¬Y3 c m t x:=fun⟨k,hk,hF,q0,bj⟩=>by
    have:=h4 k hk hF
    rw[yv]at this
    exact this.elim q0 bj
   simp only[v,aB]
   clear r h1 a4 af b h3 h4
   have HW:=zd (QV (ud A) F ⟨aX,aY⟩ t H x ⟨x1,by omega⟩ ⟨x3,x4⟩)
   obtain⟨-,y1,y2,-⟩:=zc (ud ao)
   go_wp2_with fail
   refine(ud HW).mono ?_
   rintro e V ⟨⟨bb,rfl,hbb⟩,a⟩
   have ay:bb=false:=by
    cases bb with
    |false=>rfl
    |true=>exact absurd (hbb.1 rfl) be
   subst ay
   have g:=zd ((ud l).trans (a.mono (ud l).size))
   clear a HW hbb
   go_wp2_with fail
   go_ret
   exact⟨rfl,ud g⟩
end Go.Proofs.YtndhpgciopcncaaGreatDoor
