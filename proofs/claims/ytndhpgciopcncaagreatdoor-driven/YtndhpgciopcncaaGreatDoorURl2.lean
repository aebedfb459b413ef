import Derived.Test.YtndhpgciopcncaaGreatDoorUStp2
import Derived.Deep.RegionHeld3
open Go.Value renaming int → I
open Go.IntKind renaming i64 → J
open Nat renaming le_refl → O
open Go.IntKind (i32)
set_option linter.unusedVariables false
set_option maxRecDepth 100000
set_option maxHeartbeats 4000000
namespace Go.Proofs.YtndhpgciopcncaaGreatDoor
open Go.RowKit Go.Maps Go.Shelf
theorem zbR{A:Cl}{v:Int}(h:A.cnt=0):Qs A v=⟨A.cnt+1,wrap64 (A.sum+v),v,v⟩:=by simp[Qs,h]
theorem ziC{A:Cl}{v:Int}(h:¬A.cnt=0)(a:v<A.mn)(b:A.mx<v):Qs A v=⟨A.cnt+1,wrap64 (A.sum+v),v,v⟩:=by simp[Qs,a,b]
theorem ziD{A:Cl}{v:Int}(h:¬A.cnt=0)(a:v<A.mn)(b:¬A.mx<v):Qs A v=⟨A.cnt+1,wrap64 (A.sum+v),v,A.mx⟩:=by simp[Qs,h,a,b]
theorem ziE{A:Cl}{v:Int}(h:¬A.cnt=0)(a:¬v<A.mn)(b:A.mx<v):Qs A v=⟨A.cnt+1,wrap64 (A.sum+v),A.mn,v⟩:=by simp[Qs,h,a,b]
theorem ziF{A:Cl}{v:Int}(h:¬A.cnt=0)(a:¬v<A.mn)(b:¬A.mx<v):Qs A v=⟨A.cnt+1,wrap64 (A.sum+v),A.mn,A.mx⟩:=by simp[Qs,h,a,b]
theorem zdx{w:World}{B:Nat}{s:Shp}{c:Cf}{ep:Int}{m:MS}{sn:Int}{ns:List Nm}{ks:List Tok}{us:List Int}(h:zI w B s c ep m sn ns ks us)(hc:c.ok)(t:Int)(ht: -1<=t/\t<c.n)(sr wa:Int)(X:∀x∈ns,0<=x.tm/\x.tm<=100000/\ -2147483648<=x.val/\x.val<=2147483647)(ao:ns.length<4398046511104):
  Calls Tryz.prog 85 #[.pointer (some ⟨s.p,0,none⟩),I J t,I J sr,I J wa] w fun e w'=>∃d:Cl,IsC (fun x=>x.sr=sr/\x.tm/c.wt t=wa) ns d/\e=.returned (.agg #[I J d.cnt,I J d.sum,I i32 d.mn,I i32 d.mx])/\Below w.1.size w w':=by
 obtain⟨b2,b3,a4,bz⟩:=box2 w (.cells #[I J 0,I J 0,I i32 0,I i32 0] 115) (.cells #[I J 0,I J 0,I i32 0,I i32 0] 115)
 have B2:=zd b2
 have B3:=zd b3
 have BZ:=zd bz
 have a0:=zd a4
 have H0:=zd h
 have H:=hc.wt ht.1 ht.2
 obtain⟨an,cn,o⟩:=zS h.nrow
 have ap:=h.lt
 clear h b2 b3 bz a4
 go_enter Tryz.func85,Tryz.ntmps85
 go_wp2_with fail
 generalize((w.alloc (.cells #[I J 0,I J 0,I i32 0,I i32 0] 115)).alloc (.cells #[I J 0,I J 0,I i32 0,I i32 0] 115))=W at*
 go_loopw [10,11] (fun y _ wr=>∃(k:Nat) (A:Cl),k<=ns.length/\y=I J k/\IsC (fun x=>x.sr=sr/\x.tm/c.wt t=wa) (ns.take k) A/\wr.1[w.1.size+1]?=some (Xp A)/\Below (w.1.size+1) W wr) (fun y _ _=>ns.length-(intOf y).toNat)
 case atStart=>exact⟨0,xY,Nat.zero_le _,rfl,IsC.zero (fun x hx=>by simp at hx),ud B3,Below.refl _ _⟩
 case round=>
  obtain⟨k,A,hk,rfl,T,F,hb⟩:=hrel
  have D:Below w.1.size w wr:=(ud a0).trans (hb.mono (by omega))
  have U:zI wr B s c ep m sn ns ks us:=(ud H0).later D
  obtain⟨-,-,-,-,-,-,-,C,-,-⟩:=U.cells
  rw[o]at C
  have aw:=U.lt
  have ad:=za F
  have ax:w.1.size<wr.1.size:=by omega
  have au:(ns.length:Int)<4398046511104:=by omega
  have HS:=zd U
  have L:=zd hb
  have a8:=zd D
  have S:=zd T
  have aq:=zd F
  by_cases ag:k<ns.length
  ·obtain⟨x,hx⟩:=ja ag
   obtain⟨x1,x2,x3,x4⟩:=X x (List.mem_of_getElem? hx)
   have V:=U.nrow
   rw[o]at V
   obtain⟨g,am,hv,_,G,y0,y1,y2⟩:=zjb V hx
   have ai:an=some ⟨g,0,none⟩:=by injection hv
   subst ai
   have ar:(k:Int)<ns.length:=by omega
   have a6:=T.cnt
   have a5:=qL (P:=fun x:Nm=>x.sr=sr/\x.tm/c.wt t=wa) (ns.take k)
   rw[List.length_take,Nat.min_eq_left hk]at a5
   have a1:0<=A.cnt:=by omega
   have a2:A.cnt<=k:=by omega
   have HX:=zd hx
   have a7:ns.take (k+1)=ns.take k++[x]:=by
    obtain⟨af,ak⟩:=List.getElem?_eq_some_iff.1 hx
    rw[List.take_succ_eq_append_getElem af,ak]
   have z:=zd a7
   clear a7
   have Y:=zm wr (.cells #[I J x.sr,I J x.tm,I i32 x.val] 87)
   have R:Below wr.1.size wr (wr.alloc (.cells #[I J x.sr,I J x.tm,I i32 x.val] 87)):=(Below.refl _ _).alloc (O _) _
   have q2:=(R.block (w.1.size+1) ad).trans F
   have a3:=U.later R
   have b:=zd R
   have u:=zd q2
   have f:=fun W (e:W=(wr.alloc (.cells #[I J x.sr,I J x.tm,I i32 x.val] 87)).drew)=>zd (e▸QW (a3.later (Below.refl _ _).drew) hc t ht.1 ht.2)
   obtain⟨n0,n1,n2,-⟩:=zc Y
   have nz:=za Y
   have cz:=za q2
   obtain⟨d0,d1,d2,d3,-⟩:=zc q2
   have df:∀j,(wr.alloc (.cells #[I J x.sr,I J x.tm,I i32 x.val] 87)).frozen? ⟨w.1.size+1,j,none⟩=false:=fun j=>zE q2 j
   have i:IntKind.i64.wrap (x.tm.tdiv (c.wt t))=x.tm/c.wt t:=by
    have Q:x.tm/c.wt t<=x.tm:=Int.ediv_le_self _ x1
    have N:0<=x.tm/c.wt t:=Int.ediv_nonneg x1 (by omega)
    rw[Int.tdiv_eq_ediv_of_nonneg x1,IntKind.wrap_i64];omega
   have E:¬c.wt t=0:=by omega
   have ah:¬w.1.size+1=wr.1.size:=by omega
   clear U hb D T F hx V hv Y R q2 a3 a6 a5 X
   by_cases hs:x.sr=sr
   ·subst hs
    have r:(x.sr !=x.sr)=false:=by simp
    by_cases hw:x.tm/c.wt t=wa
    ·subst hw
     have aj:(x.tm/c.wt t !=x.tm/c.wt t)=false:=by simp
     by_cases M:A.cnt=0
     ·have al:(A.cnt==0)=true:=by simp[M]
      have l:=zd (zbR (v:=x.val) M)
      clear M
      go_wp2_with fail
      generalize(wr.alloc (.cells #[I J x.sr,I J x.tm,I i32 x.val] 87))=Z at*
      refine yN (by kernel_rfl) (by kernel_rfl) ?_
      iterate 9 ((with_reducible refine wpStill_step (fun K a=>?_));go_simp;(with_reducible refine a _ ?_);clear a K)
      still_call (ud (f _ rfl))
      iterate 4 ((with_reducible refine wpStill_step (fun K a=>?_));go_simp;(with_reducible refine a _ ?_);clear a K)
      refine wpStill_nil ?_
      clear f i n0 n1 r y0 y1 y2 C E o H G
      go_wp2_with fail
      go_roundw
      case rel=>
       refine⟨k+1,Qs A x.val,by omega,by go_num,?_,?_,?_⟩
       ·rw[ud z];exact(ud S).add ⟨rfl,rfl⟩
       ·rw[ud l];exact ziN (ud u) _ _ _ _
       ·(try refine Below.drew ?_)
        repeat(refine kQ ?_ (O _))
        first|exact((ud L).trans ((ud b).mono (by omega))).drew|exact(ud L).trans ((ud b).mono (by omega))
      case measure=>simp[intOf];omega
     ·have al:(A.cnt==0)=false:=by simp[M]
      by_cases Q:x.val<A.mn
      ·by_cases N:A.mx<x.val
       ·have l:=zd (ziC (v:=x.val) M Q N)
        clear M
        go_wp2_with fail
        generalize(wr.alloc (.cells #[I J x.sr,I J x.tm,I i32 x.val] 87))=Z at*
        refine yN (by kernel_rfl) (by kernel_rfl) ?_
        iterate 9 ((with_reducible refine wpStill_step (fun K a=>?_));go_simp;(with_reducible refine a _ ?_);clear a K)
        still_call (ud (f _ rfl))
        iterate 4 ((with_reducible refine wpStill_step (fun K a=>?_));go_simp;(with_reducible refine a _ ?_);clear a K)
        refine wpStill_nil ?_
        clear f i n0 n1 r y0 y1 y2 C E o H G
        go_wp2_with fail
        go_roundw
        case rel=>
         refine⟨k+1,Qs A x.val,by omega,by go_num,?_,?_,?_⟩
         ·rw[ud z];exact(ud S).add ⟨rfl,rfl⟩
         ·rw[ud l];exact ziN (ud u) _ _ _ _
         ·(try refine Below.drew ?_)
          repeat(refine kQ ?_ (O _))
          first|exact((ud L).trans ((ud b).mono (by omega))).drew|exact(ud L).trans ((ud b).mono (by omega))
        case measure=>simp[intOf];omega
       ·have l:=zd (ziD (v:=x.val) M Q N)
        clear M
        have ac:decide (A.mx<x.val)=false:=by simpa using N
        clear N
        go_wp2_with fail
        generalize(wr.alloc (.cells #[I J x.sr,I J x.tm,I i32 x.val] 87))=Z at*
        refine yN (by kernel_rfl) (by kernel_rfl) ?_
        iterate 9 ((with_reducible refine wpStill_step (fun K a=>?_));go_simp;(with_reducible refine a _ ?_);clear a K)
        still_call (ud (f _ rfl))
        iterate 4 ((with_reducible refine wpStill_step (fun K a=>?_));go_simp;(with_reducible refine a _ ?_);clear a K)
        refine wpStill_nil ?_
        clear f i n0 n1 r y0 y1 y2 C E o H G
        go_wp2_with fail
        go_roundw
        case rel=>
         refine⟨k+1,Qs A x.val,by omega,by go_num,?_,?_,?_⟩
         ·rw[ud z];exact(ud S).add ⟨rfl,rfl⟩
         ·rw[ud l];exact cl_2 (ud u) _ _ _
         ·(try refine Below.drew ?_)
          repeat(refine kQ ?_ (O _))
          first|exact((ud L).trans ((ud b).mono (by omega))).drew|exact(ud L).trans ((ud b).mono (by omega))
        case measure=>simp[intOf];omega
      ·by_cases N:A.mx<x.val
       ·have l:=zd (ziE (v:=x.val) M Q N)
        clear M
        have ab:decide (x.val<A.mn)=false:=by simpa using Q
        clear Q
        go_wp2_with fail
        generalize(wr.alloc (.cells #[I J x.sr,I J x.tm,I i32 x.val] 87))=Z at*
        refine yN (by kernel_rfl) (by kernel_rfl) ?_
        iterate 9 ((with_reducible refine wpStill_step (fun K a=>?_));go_simp;(with_reducible refine a _ ?_);clear a K)
        still_call (ud (f _ rfl))
        iterate 4 ((with_reducible refine wpStill_step (fun K a=>?_));go_simp;(with_reducible refine a _ ?_);clear a K)
        refine wpStill_nil ?_
        clear f i n0 n1 r y0 y1 y2 C E o H G
        go_wp2_with fail
        go_roundw
        case rel=>
         refine⟨k+1,Qs A x.val,by omega,by go_num,?_,?_,?_⟩
         ·rw[ud z];exact(ud S).add ⟨rfl,rfl⟩
         ·rw[ud l];exact cl_3 (ud u) _ _ _
         ·(try refine Below.drew ?_)
          repeat(refine kQ ?_ (O _))
          first|exact((ud L).trans ((ud b).mono (by omega))).drew|exact(ud L).trans ((ud b).mono (by omega))
        case measure=>simp[intOf];omega
       ·have l:=zd (ziF (v:=x.val) M Q N)
        clear M
        have ab:decide (x.val<A.mn)=false:=by simpa using Q
        have ac:decide (A.mx<x.val)=false:=by simpa using N
        clear Q N
        go_wp2_with fail
        generalize(wr.alloc (.cells #[I J x.sr,I J x.tm,I i32 x.val] 87))=Z at*
        refine yN (by kernel_rfl) (by kernel_rfl) ?_
        iterate 9 ((with_reducible refine wpStill_step (fun K a=>?_));go_simp;(with_reducible refine a _ ?_);clear a K)
        still_call (ud (f _ rfl))
        iterate 4 ((with_reducible refine wpStill_step (fun K a=>?_));go_simp;(with_reducible refine a _ ?_);clear a K)
        refine wpStill_nil ?_
        clear f i n0 n1 r y0 y1 y2 C E o H G
        go_wp2_with fail
        go_roundw
        case rel=>
         refine⟨k+1,Qs A x.val,by omega,by go_num,?_,?_,?_⟩
         ·rw[ud z];exact(ud S).add ⟨rfl,rfl⟩
         ·rw[ud l];exact cl_0 (ud u) _ _
         ·(try refine Below.drew ?_)
          repeat(refine kQ ?_ (O _))
          first|exact((ud L).trans ((ud b).mono (by omega))).drew|exact(ud L).trans ((ud b).mono (by omega))
        case measure=>simp[intOf];omega
    ·have aj:(x.tm/c.wt t !=wa)=true:=by simpa using hw
     have aa:=zd hw
     clear hw
     go_wp2_with fail
     generalize(wr.alloc (.cells #[I J x.sr,I J x.tm,I i32 x.val] 87))=Z at*
     refine yN (by kernel_rfl) (by kernel_rfl) ?_
     iterate 9 ((with_reducible refine wpStill_step (fun K a=>?_));go_simp;(with_reducible refine a _ ?_);clear a K)
     still_call (ud (f _ rfl))
     iterate 4 ((with_reducible refine wpStill_step (fun K a=>?_));go_simp;(with_reducible refine a _ ?_);clear a K)
     refine wpStill_nil ?_
     clear f i n0 n1 r y0 y1 y2 C E o H G
     go_wp2_with fail
     refine⟨⟨k+1,A,by omega,by go_num,?_,ud u,((ud L).trans ((ud b).mono (by omega))).drew⟩,by simp[intOf];omega⟩
     rw[ud z];exact(ud S).skip (fun e=>ud aa e.2)
   ·have r:(x.sr !=sr)=true:=by simpa using hs
    have a9:=zd hs
    clear hs
    go_wp2_with fail
    generalize(wr.alloc (.cells #[I J x.sr,I J x.tm,I i32 x.val] 87))=Z at*
    refine yN (by kernel_rfl) (by kernel_rfl) ?_
    iterate 5 ((with_reducible refine wpStill_step (fun K a=>?_));go_simp;(with_reducible refine a _ ?_);clear a K)
    (try simp only[r])
    iterate 8 ((with_reducible refine Jj (by kernel_rfl) ?_);(try simp only[Act.put,List.setIfInBounds_toArray,List.set_cons_zero,List.set_cons_succ]))
    iterate 1 ((with_reducible refine wpStill_step (fun K a=>?_));go_simp;(with_reducible refine a _ ?_);clear a K)
    refine wpStill_nil ?_
    go_wp2_with fail
    refine⟨⟨k+1,A,by omega,by go_num,?_,ud u,((ud L).trans ((ud b).mono (by omega))).drew⟩,by simp[intOf];omega⟩
    rw[ud z];exact(ud S).skip (fun e=>ud a9 e.1)
  ·have ae:k=ns.length:=by omega
   subst ae
   have av:decide ((ns.length:Int)<ns.length)=false:=by simp
   have hd:=F
   obtain⟨d0,d1,d2,d3,-⟩:=zc hd
   have q:=(hb.block w.1.size (by omega)).trans (ud B2)
   obtain⟨d4,d5,d6,d7,-⟩:=zc q
   have df:∀j,wr.frozen? ⟨w.1.size,j,none⟩=false:=fun j=>zE q j
   have Q1:=zd q
   have ah:¬w.1.size+1=w.1.size:=by omega
   clear q hd F hb U D T X
   go_wp2_with fail
   have hf:=set4 (ud Q1) (I J A.cnt) (I J A.sum) (I i32 A.mn) (I i32 A.mx)
   have T:=ud S
   rw[List.take_length]at T
   refine bodyPost_ret (v:=.agg #[I J A.cnt,I J A.sum,I i32 A.mn,I i32 A.mx]) (results_cell_row Tryz.results85 _ _ w.1.size _ _ _ _ rfl hf Tryz.underlying115 rfl (by kernel_rfl)) rfl ⟨A,T,rfl,?_⟩
   refine(ud a8).trans ?_
   repeat(refine kQ ?_ (O _))
   exact Below.refl _ _
end Go.Proofs.YtndhpgciopcncaaGreatDoor
