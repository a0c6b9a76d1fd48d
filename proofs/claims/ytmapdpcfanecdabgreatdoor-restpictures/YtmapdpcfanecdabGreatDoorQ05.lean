import Derived.Shelf.Strings.Builder1
import Derived.Shelf.Strconv.Atoi
import Derived.Shelf.Strconv.Itoa0
import Derived.Shelf.Strconv.Itoa1
import Derived.Shelf.LaysM
import Derived.Shelf.Strconv.Itoa2
import Derived.Shelf.Strconv.Itoa3
import Derived.Shelf.Strconv.AtoiErrFast
import Derived.Shelf.Strconv.ParseIntEmpty
import Derived.Shelf.Strconv.AtoiFail
import Derived.Shelf.Strconv.Clone
import Derived.Shelf.Strconv.SyntaxError
import Derived.Shelf.LaysC
import Derived.Shelf.Strconv.ToError
import Derived.Shelf.Strconv.Lower
import Derived.Shelf.Strconv.ParseUint10
import Derived.Shelf.Strconv.ParseUint10Empty
import Derived.Shelf.Strconv.ParseUint10Any
import Derived.Shelf.Strconv.ParseInt10
import Derived.Shelf.Strconv.AtoiLong
import Derived.Shelf.Strconv.AtoiInnerAll
import Derived.Shelf.Strconv.RangeError
import Derived.Shelf.Strconv.ToErrorRange
import Derived.Shelf.Strconv.AtoiAll
import Derived.Shelf.Strings.Search1
import Derived.Shelf.Strings.Search2
import Derived.Shelf.Strings.Search3
import Derived.Shelf.Strings.Cut
import Derived.Shelf.Strings.Count
import Derived.Shelf.Strings.Shaped
import Derived.Shelf.Sort.Plain
import Derived.Shelf.Strings.Split
import Derived.Shelf.Bits.Mul64
import Derived.Shelf.Unicode.DecodeSlow
import Derived.Shelf.Slices.Equal
import Derived.Ground.Names2Prog
import Derived.Shelf.Slices.Clone
import Derived.Shelf.Slices.CompactI
import Derived.Shelf.Slices.In.SortNone
import Derived.Test.YtmapdpcfanecdabGreatDoorProg
open List renaming length→X
open Array renaming size→R
open Go.World renaming heap→M
open Go.Ending renaming returned→Rt
open Go.IntKind renaming i64→Y
open Go.Proofs.Tryz renaming prog→f
open Go.Value renaming int→I,slice→U,tuple→Tu,bool→O
open Option renaming none→E,some→G
open Go.RowKit renaming Below→n4
open Go renaming World→C
set_option linter.all false
open Go.Proofs.Tryz
namespace Go.Proofs.YtmapdpcfanecdabGreatDoor
end Go.Proofs.YtmapdpcfanecdabGreatDoor
namespace Go.Proofs
open Go.Shelf
def Tryz.laysM171_ren:Go.Shelf.Ren:=⟨λ|171=>118|243=>176|246=>215|283=>239|284=>240|285=>241|286=>242|129=>259|317=>258|318=>260|319=>261|320=>262|337=>283|338=>284|n=>n,λ|3=>3|9=>9|2=>2|4=>4|171=>275|0=>0|53=>265|37=>120|5=>5|173=>278|212=>285|51=>262|20=>20|213=>286|46=>235|232=>317|233=>318|n=>n,λ|17=>1|18=>4|19=>5|n=>n⟩
def Tryz.laysM171:Go.Proofs.LaysM.n171 f Tryz.laysM171_ren:={
 mixed:=by kernel_rfl
 f129:=func259.trans (congrArg G (by kernel_rfl))
 f171:=func118.trans (congrArg G (by kernel_rfl))
 f243:=func176.trans (congrArg G (by kernel_rfl))
 f246:=func215.trans (congrArg G (by kernel_rfl))
 f283:=func239.trans (congrArg G (by kernel_rfl))
 f284:=func240.trans (congrArg G (by kernel_rfl))
 f285:=func241.trans (congrArg G (by kernel_rfl))
 f286:=func242.trans (congrArg G (by kernel_rfl))
 f317:=func258.trans (congrArg G (by kernel_rfl))
 f318:=func260.trans (congrArg G (by kernel_rfl))
 f319:=func261.trans (congrArg G (by kernel_rfl))
 f320:=func262.trans (congrArg G (by kernel_rfl))
 f337:=func283.trans (congrArg G (by kernel_rfl))
 f338:=func284.trans (congrArg G (by kernel_rfl))
 t0:=underlying0
 a0:=isAgg0
 z0:=sizeOf0
 v0:=zeroValue0
 t2:=underlying2
 a2:=isAgg2
 z2:=sizeOf2
 v2:=zeroValue2
 t3:=underlying3
 a3:=isAgg3
 z3:=sizeOf3
 v3:=zeroValue3
 t4:=underlying4
 a4:=isAgg4
 z4:=sizeOf4
 v4:=zeroValue4
 t5:=underlying5
 a5:=isAgg5
 z5:=sizeOf5
 v5:=zeroValue5
 t9:=underlying9
 a9:=isAgg9
 z9:=sizeOf9
 v9:=zeroValue9
 t20:=underlying20
 a20:=isAgg20
 z20:=sizeOf20
 v20:=zeroValue20
 t37:=underlying120
 a37:=isAgg120
 z37:=sizeOf120
 v37:=zeroValue120
 t46:=underlying235
 a46:=isAgg235
 z46:=sizeOf235
 v46:=zeroValue235
 t51:=underlying262
 a51:=isAgg262
 z51:=sizeOf262
 v51:=zeroValue262
 t53:=underlying265
 a53:=isAgg265
 z53:=sizeOf265
 v53:=zeroValue265
 t171:=underlying275
 a171:=isAgg275
 z171:=sizeOf275
 v171:=zeroValue275
 t173:=underlying278
 a173:=isAgg278
 z173:=sizeOf278
 v173:=zeroValue278
 t212:=underlying285
 a212:=isAgg285
 z212:=sizeOf285
 v212:=zeroValue285
 t213:=underlying286
 a213:=isAgg286
 z213:=sizeOf286
 t232:=underlying317
 a232:=isAgg317
 z232:=sizeOf317
 v232:=zeroValue317
 t233:=underlying318
 a233:=isAgg318
 z233:=sizeOf318
 v233:=zeroValue318
 g17:=by kernel_rfl
 g18:=by kernel_rfl
 g19:=by kernel_rfl
 i0:=by kernel_rfl
 i2:=by kernel_rfl
 i3:=by kernel_rfl
 i4:=by kernel_rfl
 i5:=by kernel_rfl
 i9:=by kernel_rfl
 i20:=by kernel_rfl
 i37:=by kernel_rfl
 i46:=by kernel_rfl
 i51:=by kernel_rfl
 i53:=by kernel_rfl
 i171:=by kernel_rfl
 i173:=by kernel_rfl
 i212:=by kernel_rfl
 i232:=by kernel_rfl
 i233:=by kernel_rfl
 m17:=by kernel_rfl
 m18:=by kernel_rfl
 m19:=by kernel_rfl}
open Go.RowKit Go.Sort Go.Lib in
def Tryz.strconv_Itoa (n:Int)(c: -9223372036854775808<=n)(b:n<=9223372036854775807)(w:C)(a:Lib.TabIs f w "internal/strconv.uint64pow10" .u64 Lib.pow10Tab):
  Calls f 118 #[I Y n] w λe u=>e=Rt (.string ⟨(Lib.itoa n).toArray⟩)/\∃k j,u=grow (w.drewN k) j:=Any.strconv_Itoa Tryz.laysM171 n c b w a
def Tryz.lays189_ren:Go.Shelf.Ren:=⟨λ|189=>217|125=>244|257=>243|128=>272|129=>259|294=>263|295=>264|296=>265|297=>266|298=>267|299=>268|216=>269|300=>270|301=>271|328=>285|329=>286|330=>287|331=>288|332=>289|215=>290|343=>295|n=>n,λ|28=>34|3=>3|46=>235|0=>0|51=>262|53=>265|4=>4|183=>289|182=>288|131=>130|5=>5|9=>9|218=>306|222=>230|228=>319|229=>320|n=>n,λ|n=>n⟩
def Tryz.lays189:Go.Proofs.Lays.n189 f Tryz.lays189_ren:={
 mixed:=by kernel_rfl
 f125:=func244.trans (congrArg G (by kernel_rfl))
 f128:=func272.trans (congrArg G (by kernel_rfl))
 f129:=func259.trans (congrArg G (by kernel_rfl))
 f189:=func217.trans (congrArg G (by kernel_rfl))
 f215:=func290.trans (congrArg G (by kernel_rfl))
 f216:=func269.trans (congrArg G (by kernel_rfl))
 f257:=func243.trans (congrArg G (by kernel_rfl))
 f294:=func263.trans (congrArg G (by kernel_rfl))
 f295:=func264.trans (congrArg G (by kernel_rfl))
 f296:=func265.trans (congrArg G (by kernel_rfl))
 f297:=func266.trans (congrArg G (by kernel_rfl))
 f298:=func267.trans (congrArg G (by kernel_rfl))
 f299:=func268.trans (congrArg G (by kernel_rfl))
 f300:=func270.trans (congrArg G (by kernel_rfl))
 f301:=func271.trans (congrArg G (by kernel_rfl))
 f328:=func285.trans (congrArg G (by kernel_rfl))
 f329:=func286.trans (congrArg G (by kernel_rfl))
 f330:=func287.trans (congrArg G (by kernel_rfl))
 f331:=func288.trans (congrArg G (by kernel_rfl))
 f332:=func289.trans (congrArg G (by kernel_rfl))
 f343:=func295.trans (congrArg G (by kernel_rfl))
 t0:=underlying0
 a0:=isAgg0
 z0:=sizeOf0
 v0:=zeroValue0
 t3:=underlying3
 a3:=isAgg3
 z3:=sizeOf3
 v3:=zeroValue3
 t4:=underlying4
 a4:=isAgg4
 z4:=sizeOf4
 v4:=zeroValue4
 t5:=underlying5
 a5:=isAgg5
 z5:=sizeOf5
 v5:=zeroValue5
 t9:=underlying9
 a9:=isAgg9
 z9:=sizeOf9
 v9:=zeroValue9
 t28:=underlying34
 a28:=isAgg34
 z28:=sizeOf34
 v28:=zeroValue34
 t46:=underlying235
 a46:=isAgg235
 z46:=sizeOf235
 v46:=zeroValue235
 t51:=underlying262
 a51:=isAgg262
 z51:=sizeOf262
 v51:=zeroValue262
 t53:=underlying265
 a53:=isAgg265
 z53:=sizeOf265
 v53:=zeroValue265
 t131:=underlying130
 a131:=isAgg130
 z131:=sizeOf130
 v131:=zeroValue130
 t182:=underlying288
 a182:=isAgg288
 z182:=sizeOf288
 v182:=zeroValue288
 t183:=underlying289
 a183:=isAgg289
 z183:=sizeOf289
 v183:=zeroValue289
 t218:=underlying306
 a218:=isAgg306
 z218:=sizeOf306
 v218:=zeroValue306
 t222:=underlying230
 a222:=isAgg230
 z222:=sizeOf230
 v222:=zeroValue230
 t228:=underlying319
 a228:=isAgg319
 z228:=sizeOf319
 v228:=zeroValue319
 t229:=underlying320
 a229:=isAgg320
 z229:=sizeOf320
 v229:=zeroValue320}
open Go.Sort Go.RowKit in
def Tryz.slices_Sort_int (b a cap:Nat)(g:List Int)(w:C)(h:Holds (Value.int .i64) w b a g.toArray)(i:b < R (M w))(c:X g < 4611686018427387904):
  Calls f 217 #[U (G ⟨b,a,E⟩) (X g) cap] w λe u=>
   e=Rt (Tu #[])/\∃n j,u=grow (putRow (Value.int .i64) (Sort.ahead w n) b a (g.mergeSort λx y=>decide (x<=y)).toArray) j:=Any.slices_Sort_int Tryz.lays189 b a cap g w h i c
def Tryz.lays212_ren:Go.Shelf.Ren:=⟨λ|212=>187|263=>220|264=>221|n=>n,λ|46=>235|51=>262|146=>263|53=>265|148=>266|n=>n,λ|n=>n⟩
def Tryz.lays212:Go.Proofs.Lays.n212 f Tryz.lays212_ren:={
 mixed:=by kernel_rfl
 f212:=func187.trans (congrArg G (by kernel_rfl))
 f263:=func220.trans (congrArg G (by kernel_rfl))
 f264:=func221.trans (congrArg G (by kernel_rfl))
 t46:=underlying235
 a46:=isAgg235
 z46:=sizeOf235
 v46:=zeroValue235
 t51:=underlying262
 a51:=isAgg262
 z51:=sizeOf262
 v51:=zeroValue262
 t53:=underlying265
 a53:=isAgg265
 z53:=sizeOf265
 v53:=zeroValue265
 t146:=underlying263
 a146:=isAgg263
 z146:=sizeOf263
 v146:=zeroValue263
 t148:=underlying266
 a148:=isAgg266
 z148:=sizeOf266
 v148:=zeroValue266}
open Go.RowKit Go.Lib in
def Tryz.bits_Mul (x y:Nat)(g:x < 18446744073709551616)(i:y < 18446744073709551616)(w:C):
  Calls f 187 #[.int .u64 x,.int .u64 y] w λe u=>e=Rt (Tu #[.int .u64 ((x * y / 18446744073709551616:Nat):Int),.int .u64 ((x * y % 18446744073709551616:Nat):Int)])/\u=w:=Any.bits_Mul Tryz.lays212 x y g i w
def Tryz.lays111_ren:Go.Shelf.Ren:=⟨λ|111=>216|n=>n,λ|28=>34|3=>3|4=>4|0=>0|n=>n,λ|n=>n⟩
def Tryz.lays111:Go.Proofs.Lays.n111 f Tryz.lays111_ren:={
 mixed:=by kernel_rfl
 f111:=func216.trans (congrArg G (by kernel_rfl))
 t0:=underlying0
 a0:=isAgg0
 z0:=sizeOf0
 v0:=zeroValue0
 t3:=underlying3
 a3:=isAgg3
 z3:=sizeOf3
 v3:=zeroValue3
 t4:=underlying4
 a4:=isAgg4
 z4:=sizeOf4
 v4:=zeroValue4
 t28:=underlying34
 a28:=isAgg34
 z28:=sizeOf34
 v28:=zeroValue34}
open Go.RowKit Go.Lib in
def Tryz.slices_Equal_int (s r n c p o m b:Nat)(xs k:List Int)(w:C)(g:n<=X xs)(i:m<=X k)(h:n<=9223372036854775807)(a:m<=9223372036854775807)(l:∀j,j < X xs->w.cell? ⟨s,r+j,E⟩=G (I Y (xs.getD j 0)))(t:∀j,j < X k->w.cell? ⟨p,o+j,E⟩=G (I Y (k.getD j 0))):
  Calls f 216 #[U (G ⟨s,r,E⟩) n c,U (G ⟨p,o,E⟩) m b] w λe u=>e=Rt (O (xs.take n==k.take m))/\∃q,u=w.drewN q:=Any.slices_Equal_int Tryz.lays111 s r n c p o m b xs k w g i h a l t
open Go.RowKit Go.Lib in
def Tryz.slices_Equal_int_empty (h g:Option Addr)(c m b:Nat)(w:C)(a:m<=9223372036854775807):
  Calls f 216 #[U h 0 c,U g m b] w λe u=>e=Rt (O (decide (m=0)))/\u=w:=Any.slices_Equal_int_empty Tryz.lays111 h g c m b w a
def Tryz.laysNm215_ren:Go.Shelf.Ren:=⟨λ|15=>179|n=>n,λ|22=>34|3=>3|4=>4|n=>n,λ|n=>n⟩
def Tryz.laysNm215:Go.Proofs.Lays2.n15 f Tryz.laysNm215_ren:={
 mixed:=by kernel_rfl
 f15:=func179.trans (congrArg G (by kernel_rfl))
 t3:=underlying3
 a3:=isAgg3
 z3:=sizeOf3
 v3:=zeroValue3
 t4:=underlying4
 a4:=isAgg4
 z4:=sizeOf4
 v4:=zeroValue4
 t22:=underlying34
 a22:=isAgg34
 z22:=sizeOf34
 v22:=zeroValue34
 i3:=by kernel_rfl}
open Go.RowKit Go.Lib in
def Tryz.slices_Clone_int (b a n c:Nat)(g:List Int)(w:C)(i:n<=X g)(h:n * 8<=140737488355328)(k:∀j,j < X g->w.cell? ⟨b,a+j,E⟩=G (I Y (g.getD j 0))):
  Calls f 179 #[U (G ⟨b,a,E⟩) n c] w λe u=>∃l,e=Rt l/\u.ownsRow (R (M w)) 3 1 l n ((g.take n).map (Value.int .i64))/\l≠U E 0 0/\n4 (R (M w)) w u:=Any.slices_Clone_int Tryz.laysNm215 b a n c g w i h k
open Go.RowKit Go.Lib in
def Tryz.slices_Clone_int_nil (n c:Nat)(w:C):
  Calls f 179 #[U E n c] w λe u=>e=Rt (U E 0 0)/\u=w:=Any.slices_Clone_int_nil Tryz.laysNm215 n c w
open Go.RowKit Go.Lib in
def Tryz.slices_Clone_int_zero (a:Addr)(c:Nat)(w:C):
  Calls f 179 #[U (G a) 0 c] w λe u=>∃l,e=Rt l/\u.ownsRow (R (M w)) 3 1 l 0 []/\l≠U E 0 0/\n4 (R (M w)) w u:=Any.slices_Clone_int_zero Tryz.laysNm215 a c w
def Tryz.laysNm220_ren:Go.Shelf.Ren:=⟨λ|20=>218|n=>n,λ|22=>34|3=>3|4=>4|0=>0|n=>n,λ|n=>n⟩
def Tryz.laysNm220:Go.Proofs.Lays2.n20 f Tryz.laysNm220_ren:={
 mixed:=by kernel_rfl
 f20:=func218.trans (congrArg G (by kernel_rfl))
 t0:=underlying0
 a0:=isAgg0
 z0:=sizeOf0
 v0:=zeroValue0
 t3:=underlying3
 a3:=isAgg3
 z3:=sizeOf3
 v3:=zeroValue3
 t4:=underlying4
 a4:=isAgg4
 z4:=sizeOf4
 v4:=zeroValue4
 t22:=underlying34
 a22:=isAgg34
 z22:=sizeOf34
 v22:=zeroValue34
 i3:=by kernel_rfl}
open Go.RowKit Go.Lib Go.Sort in
def Tryz.slices_Compact_int (b a cap:Nat)(g:List Int)(w:C)(h:Holds (Value.int .i64) w b a g.toArray)(c:X g<=9223372036854775807)(i:X g<=cap):
  Calls f 218 #[U (G ⟨b,a,E⟩) (X g) cap] w λe u=>e=Rt (U (G ⟨b,a,E⟩) (X (Lib.compact g)) cap)/\∃q,u=putRow (Value.int .i64) (Sort.ahead w q) b a (Lib.compact g++List.replicate (X g - X (Lib.compact g)) 0).toArray:=Any.slices_Compact_int Tryz.laysNm220 b a cap g w h c i
open Go.RowKit Go.Lib Go.Sort in
def Tryz.slices_Compact_int_empty (a:Option Addr)(cap:Nat)(w:C):
  Calls f 218 #[U a 0 cap] w λe u=>e=Rt (U a 0 cap)/\u=w:=Any.slices_Compact_int_empty Tryz.laysNm220 a cap w
open Go.RowKit Go.Sort in
def Tryz.slices_Sort_int_none (p:Option Addr)(cap:Nat)(w:C):
  Calls f 217 #[U p 0 cap] w λe u=>e=Rt (Tu #[])/\u=w:=Any.slices_Sort_int_none Tryz.lays189 p cap w
end Go.Proofs
namespace Go.Proofs.YtmapdpcfanecdabGreatDoor
