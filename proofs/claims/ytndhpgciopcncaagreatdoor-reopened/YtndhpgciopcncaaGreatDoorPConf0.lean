import Derived.WalkKit
import Derived.Shelf.SlLaysF0
import Derived.Shelf.SlGeneric
import Derived.Test.YtndhpgciopcncaaGreatDoorProg
import Derived.Shelf.Strconv.AppendIntPublic10
import Derived.Shelf.Strings.LastIndex
open Option renaming some → J
open Go.Proofs.Tryz
namespace Go.Proofs.YtndhpgciopcncaaGreatDoor
def inB(x lo a:Int):Bool:=decide (lo<=x)&&decide (x<=a)
theorem vQ(x lo a:Int):inB x lo a=true↔lo<=x/\x<=a:=by simp[inB]
def zhw(b:Bool):Int:=if b then 0 else 1
def down(F:Nat->Int):Nat->Int->Bool
 |0,_=>false
 |k+1,t=>F t.toNat== -1||down F k (F t.toNat)
def Ym(n:Nat)(p:Nat->Bool):Bool:=(List.range n).all p
theorem Zr(n:Nat)(p:Nat->Bool):Ym n p=true↔∀i,i<n->p i=true:=by simp[Ym]
theorem zap(p:Nat->Bool):Ym 0 p=true:=by simp[Ym]
theorem zao(n:Nat)(p:Nat->Bool):Ym (n+1) p=(Ym n p&&p n):=by
 rw[Bool.eq_iff_iff];simp only[Zr,Bool.and_eq_true]
 constructor
 ·intro h;exact⟨fun i c=>h i (by omega),h n (by omega)⟩
 ·rintro⟨a,b⟩ i c
  by_cases e:i=n
  ·subst e;exact b
  ·exact a i (by omega)
theorem yM(n:Nat)(p:Nat->Bool)(i:Nat)(b:i<n)(h:p i=false):Ym n p=false:=by
 rw[Bool.eq_false_iff];intro a;rw[Zr]at a;rw[a i b]at h;cases h
def zP(wi:Int)(W:Nat->Int)(t:Int):Int:=if t= -1 then wi else W t.toNat
def Zm(n:Nat)(F W K:Nat->Int)(i:Nat):Bool:=inB (F i) (-1) ((n:Int)-1)&&inB (W i) 1 1000&&inB (K i) 0 1000
def zgz(n:Nat)(wi:Int)(F W:Nat->Int)(i:Nat):Bool:=(W i%zP wi W (F i)==0)&&down F n i
def xW(s le la wi ke qu:Int)(n:Nat)(F W K:Nat->Int):Bool:=
 inB s 1 4&&inB le 1 100&&inB la 0 100&&inB wi 1 50&&inB ke 0 1000&&inB qu 1 400&&inB n 1 4&&Ym n (Zm n F W K)&&Ym n (zgz n wi F W)
end Go.Proofs.YtndhpgciopcncaaGreatDoor
namespace Go.Proofs
open Go.Shelf
def Tryz.sortTsk_ren:Go.Shelf.Ren:=⟨fun|6=>165|15=>230|14=>229|28=>261|29=>262|20=>253|21=>254|22=>255|23=>256|24=>257|25=>258|26=>259|27=>260|46=>281|47=>282|48=>283|49=>284|50=>285|57=>302|n=>n,fun|22=>186|24=>177|25=>182|3=>3|39=>299|0=>0|53=>332|55=>334|4=>4|46=>326|45=>325|50=>121|5=>5|9=>9|66=>352|70=>356|76=>383|77=>384|n=>n,fun|n=>n⟩
theorem Tryz.sortTsk:Go.Proofs.SlLaysF0.n6 prog Tryz.sortTsk_ren:={
 mixed:=by kernel_rfl
 f6:=⟨Tryz.f165.name,by decide,func165.trans (congrArg J (by kernel_rfl))⟩
 f14:=⟨Tryz.f229.name,by decide,func229.trans (congrArg J (by kernel_rfl))⟩
 f15:=func230.trans (congrArg J (by kernel_rfl))
 f20:=⟨Tryz.f253.name,by decide,func253.trans (congrArg J (by kernel_rfl))⟩
 f21:=⟨Tryz.f254.name,by decide,func254.trans (congrArg J (by kernel_rfl))⟩
 f22:=⟨Tryz.f255.name,by decide,func255.trans (congrArg J (by kernel_rfl))⟩
 f23:=⟨Tryz.f256.name,by decide,func256.trans (congrArg J (by kernel_rfl))⟩
 f24:=⟨Tryz.f257.name,by decide,func257.trans (congrArg J (by kernel_rfl))⟩
 f25:=⟨Tryz.f258.name,by decide,func258.trans (congrArg J (by kernel_rfl))⟩
 f26:=⟨Tryz.f259.name,by decide,func259.trans (congrArg J (by kernel_rfl))⟩
 f27:=⟨Tryz.f260.name,by decide,func260.trans (congrArg J (by kernel_rfl))⟩
 f28:=func261.trans (congrArg J (by kernel_rfl))
 f29:=func262.trans (congrArg J (by kernel_rfl))
 f46:=⟨Tryz.f281.name,by decide,func281.trans (congrArg J (by kernel_rfl))⟩
 f47:=func282.trans (congrArg J (by kernel_rfl))
 f48:=func283.trans (congrArg J (by kernel_rfl))
 f49:=⟨Tryz.f284.name,by decide,func284.trans (congrArg J (by kernel_rfl))⟩
 f50:=⟨Tryz.f285.name,by decide,func285.trans (congrArg J (by kernel_rfl))⟩
 f57:=⟨Tryz.f302.name,by decide,func302.trans (congrArg J (by kernel_rfl))⟩
 t0:=underlying0
 a0:=Tryz.isAgg0
 z0:=Tryz.sizeOf0
 v0:=Tryz.zeroValue0
 t3:=underlying3
 a3:=Tryz.isAgg3
 z3:=Tryz.sizeOf3
 v3:=Tryz.zeroValue3
 t4:=underlying4
 a4:=Tryz.isAgg4
 z4:=Tryz.sizeOf4
 v4:=Tryz.zeroValue4
 t5:=underlying5
 a5:=Tryz.isAgg5
 z5:=Tryz.sizeOf5
 v5:=Tryz.zeroValue5
 t9:=underlying9
 a9:=Tryz.isAgg9
 z9:=Tryz.sizeOf9
 v9:=Tryz.zeroValue9
 t22:=underlying186
 a22:=Tryz.isAgg186
 z22:=Tryz.sizeOf186
 v22:=Tryz.zeroValue186
 t25:=underlying182
 a25:=Tryz.isAgg182
 z25:=Tryz.sizeOf182
 v25:=Tryz.zeroValue182
 t39:=underlying299
 a39:=Tryz.isAgg299
 z39:=Tryz.sizeOf299
 v39:=Tryz.zeroValue299
 t45:=underlying325
 a45:=Tryz.isAgg325
 z45:=Tryz.sizeOf325
 v45:=Tryz.zeroValue325
 t46:=underlying326
 a46:=Tryz.isAgg326
 z46:=Tryz.sizeOf326
 v46:=Tryz.zeroValue326
 t50:=underlying121
 a50:=Tryz.isAgg121
 z50:=Tryz.sizeOf121
 v50:=Tryz.zeroValue121
 t53:=underlying332
 a53:=Tryz.isAgg332
 z53:=Tryz.sizeOf332
 v53:=Tryz.zeroValue332
 t55:=underlying334
 a55:=Tryz.isAgg334
 z55:=Tryz.sizeOf334
 v55:=Tryz.zeroValue334
 t66:=underlying352
 a66:=Tryz.isAgg352
 z66:=Tryz.sizeOf352
 v66:=Tryz.zeroValue352
 t70:=underlying356
 a70:=Tryz.isAgg356
 z70:=Tryz.sizeOf356
 v70:=Tryz.zeroValue356
 t76:=underlying383
 a76:=Tryz.isAgg383
 z76:=Tryz.sizeOf383
 v76:=Tryz.zeroValue383
 t77:=underlying384
 a77:=Tryz.isAgg384
 z77:=Tryz.sizeOf384
 v77:=Tryz.zeroValue384}
def Tryz.layAI_ren:Go.Shelf.Ren:=⟨fun|176=>167|249=>231|288=>263|283=>286|284=>287|285=>288|286=>289|129=>262|317=>303|318=>304|319=>305|320=>306|337=>313|338=>314|n=>n,fun|37=>250|2=>2|3=>3|53=>334|4=>4|9=>9|171=>359|0=>0|173=>361|212=>387|51=>332|5=>5|20=>20|213=>388|46=>299|232=>400|233=>401|n=>n,fun|17=>3|18=>6|19=>7|n=>n⟩
theorem Tryz.layAI:Go.Proofs.LaysM.n176 prog Tryz.layAI_ren:={
 mixed:=by kernel_rfl
 f129:=func262.trans (congrArg J (by kernel_rfl))
 f176:=func167.trans (congrArg J (by kernel_rfl))
 f249:=func231.trans (congrArg J (by kernel_rfl))
 f283:=func286.trans (congrArg J (by kernel_rfl))
 f284:=func287.trans (congrArg J (by kernel_rfl))
 f285:=func288.trans (congrArg J (by kernel_rfl))
 f286:=func289.trans (congrArg J (by kernel_rfl))
 f288:=func263.trans (congrArg J (by kernel_rfl))
 f317:=func303.trans (congrArg J (by kernel_rfl))
 f318:=func304.trans (congrArg J (by kernel_rfl))
 f319:=func305.trans (congrArg J (by kernel_rfl))
 f320:=func306.trans (congrArg J (by kernel_rfl))
 f337:=func313.trans (congrArg J (by kernel_rfl))
 f338:=func314.trans (congrArg J (by kernel_rfl))
 t0:=underlying0
 a0:=Tryz.isAgg0
 z0:=Tryz.sizeOf0
 v0:=Tryz.zeroValue0
 t2:=underlying2
 a2:=Tryz.isAgg2
 z2:=Tryz.sizeOf2
 v2:=Tryz.zeroValue2
 t3:=underlying3
 a3:=Tryz.isAgg3
 z3:=Tryz.sizeOf3
 v3:=Tryz.zeroValue3
 t4:=underlying4
 a4:=Tryz.isAgg4
 z4:=Tryz.sizeOf4
 v4:=Tryz.zeroValue4
 t5:=underlying5
 a5:=Tryz.isAgg5
 z5:=Tryz.sizeOf5
 v5:=Tryz.zeroValue5
 t9:=underlying9
 a9:=Tryz.isAgg9
 z9:=Tryz.sizeOf9
 v9:=Tryz.zeroValue9
 t20:=underlying20
 a20:=Tryz.isAgg20
 z20:=Tryz.sizeOf20
 v20:=Tryz.zeroValue20
 t37:=underlying250
 a37:=Tryz.isAgg250
 z37:=Tryz.sizeOf250
 v37:=Tryz.zeroValue250
 t46:=underlying299
 a46:=Tryz.isAgg299
 z46:=Tryz.sizeOf299
 v46:=Tryz.zeroValue299
 t51:=underlying332
 a51:=Tryz.isAgg332
 z51:=Tryz.sizeOf332
 v51:=Tryz.zeroValue332
 t53:=underlying334
 a53:=Tryz.isAgg334
 z53:=Tryz.sizeOf334
 v53:=Tryz.zeroValue334
 t171:=underlying359
 a171:=Tryz.isAgg359
 z171:=Tryz.sizeOf359
 v171:=Tryz.zeroValue359
 t173:=underlying361
 a173:=Tryz.isAgg361
 z173:=Tryz.sizeOf361
 v173:=Tryz.zeroValue361
 t212:=underlying387
 a212:=Tryz.isAgg387
 z212:=Tryz.sizeOf387
 v212:=Tryz.zeroValue387
 t213:=underlying388
 a213:=Tryz.isAgg388
 z213:=Tryz.sizeOf388
 t232:=underlying400
 a232:=Tryz.isAgg400
 z232:=Tryz.sizeOf400
 v232:=Tryz.zeroValue400
 t233:=underlying401
 a233:=Tryz.isAgg401
 z233:=Tryz.sizeOf401
 v233:=Tryz.zeroValue401
 g17:=by kernel_rfl
 g18:=by kernel_rfl
 g19:=by kernel_rfl
 i0:=by kernel_rfl
 i2:=by kernel_rfl
 i3:=by kernel_rfl
 i4:=by kernel_rfl
 i5:=by kernel_rfl
 i9:=by kernel_rfl
 i20:=by kernel_rfl
 i37:=by kernel_rfl
 i46:=by kernel_rfl
 i51:=by kernel_rfl
 i53:=by kernel_rfl
 i171:=by kernel_rfl
 i173:=by kernel_rfl
 i212:=by kernel_rfl
 i232:=by kernel_rfl
 i233:=by kernel_rfl
 m17:=by kernel_rfl
 m18:=by kernel_rfl
 m19:=by kernel_rfl}
def Tryz.layLI_ren:Go.Shelf.Ren:=⟨fun|149=>132|222=>204|n=>n,fun|9=>9|5=>5|3=>3|4=>4|n=>n,fun|n=>n⟩
theorem Tryz.layLI:Go.Proofs.Lays.n149 prog Tryz.layLI_ren:={
 mixed:=by kernel_rfl
 f149:=func132.trans (congrArg J (by kernel_rfl))
 f222:=func204.trans (congrArg J (by kernel_rfl))
 t3:=underlying3
 a3:=Tryz.isAgg3
 z3:=Tryz.sizeOf3
 v3:=Tryz.zeroValue3
 t4:=underlying4
 a4:=Tryz.isAgg4
 z4:=Tryz.sizeOf4
 v4:=Tryz.zeroValue4
 t5:=underlying5
 a5:=Tryz.isAgg5
 z5:=Tryz.sizeOf5
 v5:=Tryz.zeroValue5
 t9:=underlying9
 a9:=Tryz.isAgg9
 z9:=Tryz.sizeOf9
 v9:=Tryz.zeroValue9}
def Tryz.sortSeg_ren:Go.Shelf.Ren:=⟨fun|6=>209|15=>230|14=>246|28=>261|29=>262|20=>269|21=>270|22=>271|23=>272|24=>273|25=>274|26=>275|27=>276|46=>297|47=>282|48=>283|49=>298|50=>299|57=>312|n=>n,fun|22=>105|24=>148|25=>283|3=>3|39=>299|0=>0|53=>332|55=>334|4=>4|46=>326|45=>325|50=>121|5=>5|9=>9|66=>352|70=>356|76=>383|77=>384|n=>n,fun|n=>n⟩
theorem Tryz.sortSeg:Go.Proofs.SlLaysF0.n6 prog Tryz.sortSeg_ren:={
 mixed:=by kernel_rfl
 f6:=⟨Tryz.f209.name,by decide,func209.trans (congrArg J (by kernel_rfl))⟩
 f14:=⟨Tryz.f246.name,by decide,func246.trans (congrArg J (by kernel_rfl))⟩
 f15:=func230.trans (congrArg J (by kernel_rfl))
 f20:=⟨Tryz.f269.name,by decide,func269.trans (congrArg J (by kernel_rfl))⟩
 f21:=⟨Tryz.f270.name,by decide,func270.trans (congrArg J (by kernel_rfl))⟩
 f22:=⟨Tryz.f271.name,by decide,func271.trans (congrArg J (by kernel_rfl))⟩
 f23:=⟨Tryz.f272.name,by decide,func272.trans (congrArg J (by kernel_rfl))⟩
 f24:=⟨Tryz.f273.name,by decide,func273.trans (congrArg J (by kernel_rfl))⟩
 f25:=⟨Tryz.f274.name,by decide,func274.trans (congrArg J (by kernel_rfl))⟩
 f26:=⟨Tryz.f275.name,by decide,func275.trans (congrArg J (by kernel_rfl))⟩
 f27:=⟨Tryz.f276.name,by decide,func276.trans (congrArg J (by kernel_rfl))⟩
 f28:=func261.trans (congrArg J (by kernel_rfl))
 f29:=func262.trans (congrArg J (by kernel_rfl))
 f46:=⟨Tryz.f297.name,by decide,func297.trans (congrArg J (by kernel_rfl))⟩
 f47:=func282.trans (congrArg J (by kernel_rfl))
 f48:=func283.trans (congrArg J (by kernel_rfl))
 f49:=⟨Tryz.f298.name,by decide,func298.trans (congrArg J (by kernel_rfl))⟩
 f50:=⟨Tryz.f299.name,by decide,func299.trans (congrArg J (by kernel_rfl))⟩
 f57:=⟨Tryz.f312.name,by decide,func312.trans (congrArg J (by kernel_rfl))⟩
 t0:=underlying0
 a0:=Tryz.isAgg0
 z0:=Tryz.sizeOf0
 v0:=Tryz.zeroValue0
 t3:=underlying3
 a3:=Tryz.isAgg3
 z3:=Tryz.sizeOf3
 v3:=Tryz.zeroValue3
 t4:=underlying4
 a4:=Tryz.isAgg4
 z4:=Tryz.sizeOf4
 v4:=Tryz.zeroValue4
 t5:=underlying5
 a5:=Tryz.isAgg5
 z5:=Tryz.sizeOf5
 v5:=Tryz.zeroValue5
 t9:=underlying9
 a9:=Tryz.isAgg9
 z9:=Tryz.sizeOf9
 v9:=Tryz.zeroValue9
 t22:=underlying105
 a22:=Tryz.isAgg105
 z22:=Tryz.sizeOf105
 v22:=Tryz.zeroValue105
 t25:=underlying283
 a25:=Tryz.isAgg283
 z25:=Tryz.sizeOf283
 v25:=Tryz.zeroValue283
 t39:=underlying299
 a39:=Tryz.isAgg299
 z39:=Tryz.sizeOf299
 v39:=Tryz.zeroValue299
 t45:=underlying325
 a45:=Tryz.isAgg325
 z45:=Tryz.sizeOf325
 v45:=Tryz.zeroValue325
 t46:=underlying326
 a46:=Tryz.isAgg326
 z46:=Tryz.sizeOf326
 v46:=Tryz.zeroValue326
 t50:=underlying121
 a50:=Tryz.isAgg121
 z50:=Tryz.sizeOf121
 v50:=Tryz.zeroValue121
 t53:=underlying332
 a53:=Tryz.isAgg332
 z53:=Tryz.sizeOf332
 v53:=Tryz.zeroValue332
 t55:=underlying334
 a55:=Tryz.isAgg334
 z55:=Tryz.sizeOf334
 v55:=Tryz.zeroValue334
 t66:=underlying352
 a66:=Tryz.isAgg352
 z66:=Tryz.sizeOf352
 v66:=Tryz.zeroValue352
 t70:=underlying356
 a70:=Tryz.isAgg356
 z70:=Tryz.sizeOf356
 v70:=Tryz.zeroValue356
 t76:=underlying383
 a76:=Tryz.isAgg383
 z76:=Tryz.sizeOf383
 v76:=Tryz.zeroValue383
 t77:=underlying384
 a77:=Tryz.isAgg384
 z77:=Tryz.sizeOf384
 v77:=Tryz.zeroValue384}
end Go.Proofs
