import Derived.Shelf.Strconv.Itoa0
import Derived.Shelf.Sort.Plain
import Derived.Shelf.Bits.Mul64
import Derived.Shelf.Slices.Equal
import Derived.Ground.Names2Prog
import Derived.Shelf.Slices.Clone
import Derived.Shelf.Slices.CompactI
import Derived.Shelf.Slices.In.SortNone
import Derived.Test.YtmapdpcfanecdabGreatProg
open Go.Ending renaming returned→Rt
open Go.IntKind renaming i64→Y
open Go.Proofs.Tryz renaming prog→pG
open Go.Value renaming bool→Bb,int→I,slice→U,tuple→Tu
open Option renaming none→nO,some→sO
namespace Go.Proofs.YtmapdpcfanecdabGreat
end Go.Proofs.YtmapdpcfanecdabGreat
namespace Go.Proofs
open Go.Shelf
def Tryz.lays189_ren:Go.Shelf.Ren:=⟨λ|189=>159|125=>170|257=>169|128=>180|129=>181|294=>171|295=>172|296=>173|297=>174|298=>175|299=>176|216=>177|300=>178|301=>179|328=>182|329=>183|330=>184|331=>185|332=>186|215=>187|343=>188|n=>n,λ|28=>59|3=>3|46=>160|0=>0|51=>178|53=>181|4=>4|183=>190|182=>189|131=>195|5=>5|9=>9|218=>199|222=>155|228=>204|229=>205|n=>n,λ|n=>n⟩
theorem Tryz.lays189:Go.Proofs.Lays.n189 pG Tryz.lays189_ren:={
 mixed:=by kernel_rfl
 f125:=Tryz.func170.trans (congrArg sO (by kernel_rfl))
 f128:=Tryz.func180.trans (congrArg sO (by kernel_rfl))
 f129:=Tryz.func181.trans (congrArg sO (by kernel_rfl))
 f189:=Tryz.func159.trans (congrArg sO (by kernel_rfl))
 f215:=Tryz.func187.trans (congrArg sO (by kernel_rfl))
 f216:=Tryz.func177.trans (congrArg sO (by kernel_rfl))
 f257:=Tryz.func169.trans (congrArg sO (by kernel_rfl))
 f294:=Tryz.func171.trans (congrArg sO (by kernel_rfl))
 f295:=Tryz.func172.trans (congrArg sO (by kernel_rfl))
 f296:=Tryz.func173.trans (congrArg sO (by kernel_rfl))
 f297:=Tryz.func174.trans (congrArg sO (by kernel_rfl))
 f298:=Tryz.func175.trans (congrArg sO (by kernel_rfl))
 f299:=Tryz.func176.trans (congrArg sO (by kernel_rfl))
 f300:=Tryz.func178.trans (congrArg sO (by kernel_rfl))
 f301:=Tryz.func179.trans (congrArg sO (by kernel_rfl))
 f328:=Tryz.func182.trans (congrArg sO (by kernel_rfl))
 f329:=Tryz.func183.trans (congrArg sO (by kernel_rfl))
 f330:=Tryz.func184.trans (congrArg sO (by kernel_rfl))
 f331:=Tryz.func185.trans (congrArg sO (by kernel_rfl))
 f332:=Tryz.func186.trans (congrArg sO (by kernel_rfl))
 f343:=Tryz.func188.trans (congrArg sO (by kernel_rfl))
 t0:=Tryz.underlying0
 a0:=Tryz.isAgg0
 z0:=Tryz.sizeOf0
 v0:=Tryz.zeroValue0
 t3:=Tryz.underlying3
 a3:=Tryz.isAgg3
 z3:=Tryz.sizeOf3
 v3:=Tryz.zeroValue3
 t4:=Tryz.underlying4
 a4:=Tryz.isAgg4
 z4:=Tryz.sizeOf4
 v4:=Tryz.zeroValue4
 t5:=Tryz.underlying5
 a5:=Tryz.isAgg5
 z5:=Tryz.sizeOf5
 v5:=Tryz.zeroValue5
 t9:=Tryz.underlying9
 a9:=Tryz.isAgg9
 z9:=Tryz.sizeOf9
 v9:=Tryz.zeroValue9
 t28:=Tryz.underlying59
 a28:=Tryz.isAgg59
 z28:=Tryz.sizeOf59
 v28:=Tryz.zeroValue59
 t46:=Tryz.underlying160
 a46:=Tryz.isAgg160
 z46:=Tryz.sizeOf160
 v46:=Tryz.zeroValue160
 t51:=Tryz.underlying178
 a51:=Tryz.isAgg178
 z51:=Tryz.sizeOf178
 v51:=Tryz.zeroValue178
 t53:=Tryz.underlying181
 a53:=Tryz.isAgg181
 z53:=Tryz.sizeOf181
 v53:=Tryz.zeroValue181
 t131:=Tryz.underlying195
 a131:=Tryz.isAgg195
 z131:=Tryz.sizeOf195
 v131:=Tryz.zeroValue195
 t182:=Tryz.underlying189
 a182:=Tryz.isAgg189
 z182:=Tryz.sizeOf189
 v182:=Tryz.zeroValue189
 t183:=Tryz.underlying190
 a183:=Tryz.isAgg190
 z183:=Tryz.sizeOf190
 v183:=Tryz.zeroValue190
 t218:=Tryz.underlying199
 a218:=Tryz.isAgg199
 z218:=Tryz.sizeOf199
 v218:=Tryz.zeroValue199
 t222:=Tryz.underlying155
 a222:=Tryz.isAgg155
 z222:=Tryz.sizeOf155
 v222:=Tryz.zeroValue155
 t228:=Tryz.underlying204
 a228:=Tryz.isAgg204
 z228:=Tryz.sizeOf204
 v228:=Tryz.zeroValue204
 t229:=Tryz.underlying205
 a229:=Tryz.isAgg205
 z229:=Tryz.sizeOf205
 v229:=Tryz.zeroValue205}
open Go.Sort Go.RowKit in
theorem Tryz.slices_Sort_int (blk off cap:Nat)(zs:List Int)(w:World)(hH:Holds (Value.int .i64) w blk off zs.toArray)(hblk:blk < w.heap.size)(hsz:zs.length < 4611686018427387904):
  Calls pG 159 #[U (sO ⟨blk,off,nO⟩) zs.length cap] w λe w'=>
   e=Rt (Tu #[])/\∃n os,w'=grow (putRow (Value.int .i64) (Sort.ahead w n) blk off (zs.mergeSort λx y=>decide (x<=y)).toArray) os:=Any.slices_Sort_int Tryz.lays189 blk off cap zs w hH hblk hsz
def Tryz.lays212_ren:Go.Shelf.Ren:=⟨λ|212=>128|263=>153|264=>154|n=>n,λ|46=>160|51=>178|146=>179|53=>181|148=>182|n=>n,λ|n=>n⟩
theorem Tryz.lays212:Go.Proofs.Lays.n212 pG Tryz.lays212_ren:={
 mixed:=by kernel_rfl
 f212:=Tryz.func128.trans (congrArg sO (by kernel_rfl))
 f263:=Tryz.func153.trans (congrArg sO (by kernel_rfl))
 f264:=Tryz.func154.trans (congrArg sO (by kernel_rfl))
 t46:=Tryz.underlying160
 a46:=Tryz.isAgg160
 z46:=Tryz.sizeOf160
 v46:=Tryz.zeroValue160
 t51:=Tryz.underlying178
 a51:=Tryz.isAgg178
 z51:=Tryz.sizeOf178
 v51:=Tryz.zeroValue178
 t53:=Tryz.underlying181
 a53:=Tryz.isAgg181
 z53:=Tryz.sizeOf181
 v53:=Tryz.zeroValue181
 t146:=Tryz.underlying179
 a146:=Tryz.isAgg179
 z146:=Tryz.sizeOf179
 v146:=Tryz.zeroValue179
 t148:=Tryz.underlying182
 a148:=Tryz.isAgg182
 z148:=Tryz.sizeOf182
 v148:=Tryz.zeroValue182}
open Go.RowKit Go.Lib in
theorem Tryz.bits_Mul (x y:Nat)(hx:x < 18446744073709551616)(hy:y < 18446744073709551616)(w:World):
  Calls pG 128 #[.int .u64 x,.int .u64 y] w λe w'=>e=Rt (Tu #[.int .u64 ((x * y / 18446744073709551616:Nat):Int),.int .u64 ((x * y % 18446744073709551616:Nat):Int)])/\w'=w:=Any.bits_Mul Tryz.lays212 x y hx hy w
def Tryz.lays111_ren:Go.Shelf.Ren:=⟨λ|111=>157|n=>n,λ|28=>59|3=>3|4=>4|0=>0|n=>n,λ|n=>n⟩
theorem Tryz.lays111:Go.Proofs.Lays.n111 pG Tryz.lays111_ren:={
 mixed:=by kernel_rfl
 f111:=Tryz.func157.trans (congrArg sO (by kernel_rfl))
 t0:=Tryz.underlying0
 a0:=Tryz.isAgg0
 z0:=Tryz.sizeOf0
 v0:=Tryz.zeroValue0
 t3:=Tryz.underlying3
 a3:=Tryz.isAgg3
 z3:=Tryz.sizeOf3
 v3:=Tryz.zeroValue3
 t4:=Tryz.underlying4
 a4:=Tryz.isAgg4
 z4:=Tryz.sizeOf4
 v4:=Tryz.zeroValue4
 t28:=Tryz.underlying59
 a28:=Tryz.isAgg59
 z28:=Tryz.sizeOf59
 v28:=Tryz.zeroValue59}
open Go.RowKit Go.Lib in
theorem Tryz.slices_Equal_int (b1 o1 n c b2 o2 m d:Nat)(xs ys:List Int)(w:World)(hx:n<=xs.length)(hy:m<=ys.length)(hbig:n<=9223372036854775807)(hbig2:m<=9223372036854775807)(hc1:∀j,j < xs.length->w.cell? ⟨b1,o1+j,nO⟩=sO (I Y (xs.getD j 0)))(hc2:∀j,j < ys.length->w.cell? ⟨b2,o2+j,nO⟩=sO (I Y (ys.getD j 0))):
  Calls pG 157 #[U (sO ⟨b1,o1,nO⟩) n c,U (sO ⟨b2,o2,nO⟩) m d] w λe w'=>e=Rt (Bb (xs.take n==ys.take m))/\∃q,w'=w.drewN q:=Any.slices_Equal_int Tryz.lays111 b1 o1 n c b2 o2 m d xs ys w hx hy hbig hbig2 hc1 hc2
open Go.RowKit Go.Lib in
theorem Tryz.slices_Equal_int_empty (a1 a2:Option Addr)(c m d:Nat)(w:World)(hbig2:m<=9223372036854775807):
  Calls pG 157 #[U a1 0 c,U a2 m d] w λe w'=>e=Rt (Bb (decide (m=0)))/\w'=w:=Any.slices_Equal_int_empty Tryz.lays111 a1 a2 c m d w hbig2
def Tryz.laysNm215_ren:Go.Shelf.Ren:=⟨λ|15=>125|n=>n,λ|22=>59|3=>3|4=>4|n=>n,λ|n=>n⟩
theorem Tryz.laysNm215:Go.Proofs.Lays2.n15 pG Tryz.laysNm215_ren:={
 mixed:=by kernel_rfl
 f15:=Tryz.func125.trans (congrArg sO (by kernel_rfl))
 t3:=Tryz.underlying3
 a3:=Tryz.isAgg3
 z3:=Tryz.sizeOf3
 v3:=Tryz.zeroValue3
 t4:=Tryz.underlying4
 a4:=Tryz.isAgg4
 z4:=Tryz.sizeOf4
 v4:=Tryz.zeroValue4
 t22:=Tryz.underlying59
 a22:=Tryz.isAgg59
 z22:=Tryz.sizeOf59
 v22:=Tryz.zeroValue59
 i3:=by kernel_rfl}
open Go.RowKit Go.Lib in
theorem Tryz.slices_Clone_int (b off n c:Nat)(zs:List Int)(w:World)(hz:n<=zs.length)(hbig:n * 8<=140737488355328)(hc:∀j,j < zs.length->w.cell? ⟨b,off+j,nO⟩=sO (I Y (zs.getD j 0))):
  Calls pG 125 #[U (sO ⟨b,off,nO⟩) n c] w λe w'=>∃v',e=Rt v'/\w'.ownsRow w.heap.size 3 1 v' n ((zs.take n).map (Value.int .i64))/\v'≠U nO 0 0/\Below w.heap.size w w':=Any.slices_Clone_int Tryz.laysNm215 b off n c zs w hz hbig hc
open Go.RowKit Go.Lib in
theorem Tryz.slices_Clone_int_nil (n c:Nat)(w:World):
  Calls pG 125 #[U nO n c] w λe w'=>e=Rt (U nO 0 0)/\w'=w:=Any.slices_Clone_int_nil Tryz.laysNm215 n c w
open Go.RowKit Go.Lib in
theorem Tryz.slices_Clone_int_zero (a:Addr)(c:Nat)(w:World):
  Calls pG 125 #[U (sO a) 0 c] w λe w'=>∃v',e=Rt v'/\w'.ownsRow w.heap.size 3 1 v' 0 []/\v'≠U nO 0 0/\Below w.heap.size w w':=Any.slices_Clone_int_zero Tryz.laysNm215 a c w
def Tryz.laysNm220_ren:Go.Shelf.Ren:=⟨λ|20=>160|n=>n,λ|22=>59|3=>3|4=>4|0=>0|n=>n,λ|n=>n⟩
theorem Tryz.laysNm220:Go.Proofs.Lays2.n20 pG Tryz.laysNm220_ren:={
 mixed:=by kernel_rfl
 f20:=Tryz.func160.trans (congrArg sO (by kernel_rfl))
 t0:=Tryz.underlying0
 a0:=Tryz.isAgg0
 z0:=Tryz.sizeOf0
 v0:=Tryz.zeroValue0
 t3:=Tryz.underlying3
 a3:=Tryz.isAgg3
 z3:=Tryz.sizeOf3
 v3:=Tryz.zeroValue3
 t4:=Tryz.underlying4
 a4:=Tryz.isAgg4
 z4:=Tryz.sizeOf4
 v4:=Tryz.zeroValue4
 t22:=Tryz.underlying59
 a22:=Tryz.isAgg59
 z22:=Tryz.sizeOf59
 v22:=Tryz.zeroValue59
 i3:=by kernel_rfl}
open Go.RowKit Go.Lib Go.Sort in
theorem Tryz.slices_Compact_int (blk off cap:Nat)(zs:List Int)(w:World)(hH:Holds (Value.int .i64) w blk off zs.toArray)(hsz:zs.length<=9223372036854775807)(hcap:zs.length<=cap):
  Calls pG 160 #[U (sO ⟨blk,off,nO⟩) zs.length cap] w λe w'=>e=Rt (U (sO ⟨blk,off,nO⟩) (Lib.compact zs).length cap)/\∃q,w'=putRow (Value.int .i64) (Sort.ahead w q) blk off (Lib.compact zs++List.replicate (zs.length - (Lib.compact zs).length) 0).toArray:=Any.slices_Compact_int Tryz.laysNm220 blk off cap zs w hH hsz hcap
open Go.RowKit Go.Lib Go.Sort in
theorem Tryz.slices_Compact_int_empty (a:Option Addr)(cap:Nat)(w:World):
  Calls pG 160 #[U a 0 cap] w λe w'=>e=Rt (U a 0 cap)/\w'=w:=Any.slices_Compact_int_empty Tryz.laysNm220 a cap w
open Go.RowKit Go.Sort in
theorem Tryz.slices_Sort_int_none (p:Option Addr)(cap:Nat)(w:World):
  Calls pG 159 #[U p 0 cap] w λe w'=>e=Rt (Tu #[])/\w'=w:=Any.slices_Sort_int_none Tryz.lays189 p cap w
end Go.Proofs
namespace Go.Proofs.YtmapdpcfanecdabGreat
end Go.Proofs.YtmapdpcfanecdabGreat
