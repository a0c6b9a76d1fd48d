import Derived.Shelf.Strings.Builder1
import Derived.Shelf.Small.Bits
import Derived.Shelf.Small.Wraps
import Derived.Shelf.Strings.BuilderF
import Derived.Shelf.Strings.BuilderK
import Derived.Shelf.Utf8.RuneCount
import Derived.Shelf.Strconv.Atoi
import Derived.Shelf.Strconv.Itoa0
import Derived.Shelf.Strconv.Itoa1
import Derived.Shelf.LaysM
import Derived.Shelf.Strconv.Itoa2
import Derived.Shelf.Strconv.Itoa3
import Derived.Shelf.Strconv.AtoiErrFast
import Derived.Shelf.Strconv.ParseIntEmpty
import Derived.Shelf.Strconv.AtoiFail
import Derived.Shelf.Strconv.Clone
import Derived.Shelf.Strconv.SyntaxError
import Derived.Shelf.LaysC
import Derived.Shelf.Strconv.ToError
import Derived.Shelf.Strconv.Lower
import Derived.Shelf.Strconv.ParseUint10
import Derived.Shelf.Strconv.ParseUint10Empty
import Derived.Shelf.Strconv.ParseUint10Any
import Derived.Shelf.Strconv.ParseInt10
import Derived.Shelf.Strconv.AtoiLong
import Derived.Shelf.Strconv.AtoiInnerAll
import Derived.Shelf.Strconv.RangeError
import Derived.Shelf.Strconv.ToErrorRange
import Derived.Shelf.Strconv.AtoiAll
import Derived.Shelf.Strconv.ParseUintEmpty
import Derived.Shelf.Strconv.ParseUint10b64
import Derived.Shelf.Strconv.ParseUint10b32
import Derived.Shelf.Strconv.ParseUint10b16
import Derived.Shelf.Strconv.ParseUint10b8
import Derived.Shelf.Strings.Search1
import Derived.Shelf.Strings.Search2
import Derived.Shelf.Strings.Search3
import Derived.Shelf.Strings.Cut
import Derived.Shelf.Strings.Count
import Derived.Shelf.Strings.Shaped
import Derived.Shelf.Sort.Plain
import Derived.Shelf.Strings.Split
import Derived.Shelf.Strings.SplitShaped
import Derived.Shelf.Unicode.Decode
import Derived.Shelf.Strings.RuneCount
import Derived.Shelf.Strings.Explode
import Derived.Shelf.Bits.Mul64
import Derived.Shelf.Unicode.DecodeSlow
import Derived.Shelf.Unicode.DecodeAny
import Derived.Shelf.Slices.Turned
import Derived.Shelf.Slices.Equal
import Derived.Ground.Names2Prog
import Derived.Shelf.Slices.Clone
import Derived.Shelf.Slices.CompactI
import Derived.Shelf.Slices.SearchI
import Derived.Shelf.Slices.Cells
import Derived.Shelf.Slices.In.SortNone
import Derived.Shelf.Slices.Empties2
import Derived.Ground.SlgnProg
import Derived.Shelf.SlicesE.Clone
import Derived.Test.YtmapdpcfanecdabGreatDoorProg
open Go.Ending renaming returned→Rt
open Go.IntKind renaming i64→Y
open Go.Obj renaming cells→Cc
open Go.Proofs.Tryz renaming prog→pG
open Go.Value renaming bool→Bb,int→I,pointer→Pp,slice→U,tuple→Tu
open Option renaming none→nO,some→sO
open Go.Proofs.Tryz
namespace Go.Proofs.YtmapdpcfanecdabGreatDoor
end Go.Proofs.YtmapdpcfanecdabGreatDoor
namespace Go.Proofs
open Go.Shelf
def Tryz.lays169_ren:Go.Shelf.Ren:=⟨λ|169=>64|n=>n,λ|70=>119|9=>9|0=>0|72=>122|37=>120|127=>171|3=>3|5=>5|n=>n,λ|n=>n⟩
theorem Tryz.lays169:Go.Proofs.Lays.n169 pG Tryz.lays169_ren:={
 mixed:=by kernel_rfl
 f169:=func64.trans (congrArg sO (by kernel_rfl))
 t0:=underlying0
 a0:=isAgg0
 z0:=sizeOf0
 v0:=zeroValue0
 t3:=underlying3
 a3:=isAgg3
 z3:=sizeOf3
 v3:=zeroValue3
 t9:=underlying9
 a9:=isAgg9
 z9:=sizeOf9
 v9:=zeroValue9
 t37:=underlying120
 a37:=isAgg120
 z37:=sizeOf120
 v37:=zeroValue120
 t70:=underlying119
 a70:=isAgg119
 z70:=sizeOf119
 v70:=zeroValue119
 t72:=underlying122
 a72:=isAgg122
 z72:=sizeOf122
 v72:=zeroValue122
 t127:=underlying171
 a127:=isAgg171
 z127:=sizeOf171
 v127:=zeroValue171}
theorem Tryz.Builder_Extra_169:Builder.Extra pG Tryz.lays169_ren:={
 sizeBuilder:=by kernel_rfl
 liesBuilder:=by kernel_rfl
 t5:=underlying5
 a5:=isAgg5
 z5:=sizeOf5
 v5:=zeroValue5
 infoByte:=by kernel_rfl
 cellsByte:=by kernel_rfl
 sizeByte:=by kernel_rfl
 neB5:=by decide}
open Go.RowKit in
theorem Tryz.Builder_String_any (B b:Nat)(l:List UInt8)(w:World)(h:Lib.IsBuilder 122 5 B b (Lib.byteCells l) w)(hBw:B<=w.heap.size):
  Calls pG 64 #[Pp (sO ⟨b,0,nO⟩)] w λe w'=>e=Rt (.string ⟨l.toArray⟩)/\Below B w w':=Any.Builder_String_any Tryz.lays169 Tryz.Builder_Extra_169 B b l w h hBw
def Tryz.laysM171_ren:Go.Shelf.Ren:=⟨λ|171=>118|243=>176|246=>215|283=>239|284=>240|285=>241|286=>242|129=>259|317=>258|318=>260|319=>261|320=>262|337=>283|338=>284|n=>n,λ|3=>3|9=>9|2=>2|4=>4|171=>275|0=>0|53=>265|37=>120|5=>5|173=>278|212=>285|51=>262|20=>20|213=>286|46=>235|232=>317|233=>318|n=>n,λ|17=>1|18=>4|19=>5|n=>n⟩
theorem Tryz.laysM171:Go.Proofs.LaysM.n171 pG Tryz.laysM171_ren:={
 mixed:=by kernel_rfl
 f129:=func259.trans (congrArg sO (by kernel_rfl))
 f171:=func118.trans (congrArg sO (by kernel_rfl))
 f243:=func176.trans (congrArg sO (by kernel_rfl))
 f246:=func215.trans (congrArg sO (by kernel_rfl))
 f283:=func239.trans (congrArg sO (by kernel_rfl))
 f284:=func240.trans (congrArg sO (by kernel_rfl))
 f285:=func241.trans (congrArg sO (by kernel_rfl))
 f286:=func242.trans (congrArg sO (by kernel_rfl))
 f317:=func258.trans (congrArg sO (by kernel_rfl))
 f318:=func260.trans (congrArg sO (by kernel_rfl))
 f319:=func261.trans (congrArg sO (by kernel_rfl))
 f320:=func262.trans (congrArg sO (by kernel_rfl))
 f337:=func283.trans (congrArg sO (by kernel_rfl))
 f338:=func284.trans (congrArg sO (by kernel_rfl))
 t0:=underlying0
 a0:=isAgg0
 z0:=sizeOf0
 v0:=zeroValue0
 t2:=underlying2
 a2:=isAgg2
 z2:=sizeOf2
 v2:=zeroValue2
 t3:=underlying3
 a3:=isAgg3
 z3:=sizeOf3
 v3:=zeroValue3
 t4:=underlying4
 a4:=isAgg4
 z4:=sizeOf4
 v4:=zeroValue4
 t5:=underlying5
 a5:=isAgg5
 z5:=sizeOf5
 v5:=zeroValue5
 t9:=underlying9
 a9:=isAgg9
 z9:=sizeOf9
 v9:=zeroValue9
 t20:=underlying20
 a20:=isAgg20
 z20:=sizeOf20
 v20:=zeroValue20
 t37:=underlying120
 a37:=isAgg120
 z37:=sizeOf120
 v37:=zeroValue120
 t46:=underlying235
 a46:=isAgg235
 z46:=sizeOf235
 v46:=zeroValue235
 t51:=underlying262
 a51:=isAgg262
 z51:=sizeOf262
 v51:=zeroValue262
 t53:=underlying265
 a53:=isAgg265
 z53:=sizeOf265
 v53:=zeroValue265
 t171:=underlying275
 a171:=isAgg275
 z171:=sizeOf275
 v171:=zeroValue275
 t173:=underlying278
 a173:=isAgg278
 z173:=sizeOf278
 v173:=zeroValue278
 t212:=underlying285
 a212:=isAgg285
 z212:=sizeOf285
 v212:=zeroValue285
 t213:=underlying286
 a213:=isAgg286
 z213:=sizeOf286
 t232:=underlying317
 a232:=isAgg317
 z232:=sizeOf317
 v232:=zeroValue317
 t233:=underlying318
 a233:=isAgg318
 z233:=sizeOf318
 v233:=zeroValue318
 g17:=by kernel_rfl
 g18:=by kernel_rfl
 g19:=by kernel_rfl
 i0:=by kernel_rfl
 i2:=by kernel_rfl
 i3:=by kernel_rfl
 i4:=by kernel_rfl
 i5:=by kernel_rfl
 i9:=by kernel_rfl
 i20:=by kernel_rfl
 i37:=by kernel_rfl
 i46:=by kernel_rfl
 i51:=by kernel_rfl
 i53:=by kernel_rfl
 i171:=by kernel_rfl
 i173:=by kernel_rfl
 i212:=by kernel_rfl
 i232:=by kernel_rfl
 i233:=by kernel_rfl
 m17:=by kernel_rfl
 m18:=by kernel_rfl
 m19:=by kernel_rfl}
open Go.RowKit Go.Sort Go.Lib in
theorem Tryz.strconv_Itoa (n:Int)(h0: -9223372036854775808<=n)(h1:n<=9223372036854775807)(w:World)(htab:Lib.TabIs pG w "internal/strconv.uint64pow10" .u64 Lib.pow10Tab):
  Calls pG 118 #[I Y n] w λe w'=>e=Rt (.string ⟨(Lib.itoa n).toArray⟩)/\∃k os,w'=grow (w.drewN k) os:=Any.strconv_Itoa Tryz.laysM171 n h0 h1 w htab
def Tryz.laysC172_ren:Go.Shelf.Ren:=⟨λ|172=>238|244=>256|245=>257|247=>278|279=>279|280=>280|281=>281|282=>282|287=>292|316=>293|171=>118|205=>294|321=>296|322=>297|243=>176|246=>215|283=>239|284=>240|285=>241|286=>242|129=>259|317=>258|318=>260|319=>261|320=>262|337=>283|338=>284|n=>n,λ|9=>9|3=>3|75=>124|76=>125|4=>4|5=>5|167=>300|37=>120|0=>0|85=>301|2=>2|168=>303|53=>265|175=>311|46=>235|210=>315|127=>171|145=>329|143=>327|21=>21|171=>275|173=>278|212=>285|51=>262|20=>20|213=>286|232=>317|233=>318|80=>128|n=>n,λ|15=>2|16=>3|17=>1|18=>4|19=>5|n=>n⟩
theorem Tryz.laysC172:Go.Proofs.LaysC.n172 pG Tryz.laysC172_ren:={
 mixed:=by kernel_rfl
 f129:=func259.trans (congrArg sO (by kernel_rfl))
 f171:=func118.trans (congrArg sO (by kernel_rfl))
 f172:=func238.trans (congrArg sO (by kernel_rfl))
 f205:=func294.trans (congrArg sO (by kernel_rfl))
 f243:=func176.trans (congrArg sO (by kernel_rfl))
 f244:=func256.trans (congrArg sO (by kernel_rfl))
 f245:=func257.trans (congrArg sO (by kernel_rfl))
 f246:=func215.trans (congrArg sO (by kernel_rfl))
 f247:=func278.trans (congrArg sO (by kernel_rfl))
 f279:=func279.trans (congrArg sO (by kernel_rfl))
 f280:=func280.trans (congrArg sO (by kernel_rfl))
 f281:=func281.trans (congrArg sO (by kernel_rfl))
 f282:=func282.trans (congrArg sO (by kernel_rfl))
 f283:=func239.trans (congrArg sO (by kernel_rfl))
 f284:=func240.trans (congrArg sO (by kernel_rfl))
 f285:=func241.trans (congrArg sO (by kernel_rfl))
 f286:=func242.trans (congrArg sO (by kernel_rfl))
 f287:=func292.trans (congrArg sO (by kernel_rfl))
 f316:=func293.trans (congrArg sO (by kernel_rfl))
 f317:=func258.trans (congrArg sO (by kernel_rfl))
 f318:=func260.trans (congrArg sO (by kernel_rfl))
 f319:=func261.trans (congrArg sO (by kernel_rfl))
 f320:=func262.trans (congrArg sO (by kernel_rfl))
 f321:=func296.trans (congrArg sO (by kernel_rfl))
 f322:=func297.trans (congrArg sO (by kernel_rfl))
 f337:=func283.trans (congrArg sO (by kernel_rfl))
 f338:=func284.trans (congrArg sO (by kernel_rfl))
 t0:=underlying0
 a0:=isAgg0
 z0:=sizeOf0
 v0:=zeroValue0
 t2:=underlying2
 a2:=isAgg2
 z2:=sizeOf2
 v2:=zeroValue2
 t3:=underlying3
 a3:=isAgg3
 z3:=sizeOf3
 v3:=zeroValue3
 t4:=underlying4
 a4:=isAgg4
 z4:=sizeOf4
 v4:=zeroValue4
 t5:=underlying5
 a5:=isAgg5
 z5:=sizeOf5
 v5:=zeroValue5
 t9:=underlying9
 a9:=isAgg9
 z9:=sizeOf9
 v9:=zeroValue9
 t20:=underlying20
 a20:=isAgg20
 z20:=sizeOf20
 v20:=zeroValue20
 t21:=underlying21
 a21:=isAgg21
 z21:=sizeOf21
 v21:=zeroValue21
 t37:=underlying120
 a37:=isAgg120
 z37:=sizeOf120
 v37:=zeroValue120
 t46:=underlying235
 a46:=isAgg235
 z46:=sizeOf235
 v46:=zeroValue235
 t51:=underlying262
 a51:=isAgg262
 z51:=sizeOf262
 v51:=zeroValue262
 t53:=underlying265
 a53:=isAgg265
 z53:=sizeOf265
 v53:=zeroValue265
 t75:=underlying124
 a75:=isAgg124
 z75:=sizeOf124
 v75:=zeroValue124
 t76:=underlying125
 a76:=isAgg125
 z76:=sizeOf125
 v76:=zeroValue125
 t85:=underlying301
 a85:=isAgg301
 z85:=sizeOf301
 v85:=zeroValue301
 t127:=underlying171
 a127:=isAgg171
 z127:=sizeOf171
 v127:=zeroValue171
 t143:=underlying327
 a143:=isAgg327
 z143:=sizeOf327
 v143:=zeroValue327
 t145:=underlying329
 a145:=isAgg329
 z145:=sizeOf329
 v145:=zeroValue329
 t167:=underlying300
 a167:=isAgg300
 z167:=sizeOf300
 v167:=zeroValue300
 t168:=underlying303
 a168:=isAgg303
 z168:=sizeOf303
 v168:=zeroValue303
 t171:=underlying275
 a171:=isAgg275
 z171:=sizeOf275
 v171:=zeroValue275
 t173:=underlying278
 a173:=isAgg278
 z173:=sizeOf278
 v173:=zeroValue278
 t175:=underlying311
 a175:=isAgg311
 z175:=sizeOf311
 v175:=zeroValue311
 t210:=underlying315
 a210:=isAgg315
 z210:=sizeOf315
 v210:=zeroValue315
 t212:=underlying285
 a212:=isAgg285
 z212:=sizeOf285
 v212:=zeroValue285
 t213:=underlying286
 a213:=isAgg286
 z213:=sizeOf286
 t232:=underlying317
 a232:=isAgg317
 z232:=sizeOf317
 v232:=zeroValue317
 t233:=underlying318
 a233:=isAgg318
 z233:=sizeOf318
 v233:=zeroValue318
 g15:=by kernel_rfl
 g16:=by kernel_rfl
 g17:=by kernel_rfl
 g18:=by kernel_rfl
 g19:=by kernel_rfl
 t80:=underlying128
 a80:=isAgg128
 z80:=sizeOf128
 v80:=zeroValue128
 i0:=by kernel_rfl
 i2:=by kernel_rfl
 i3:=by kernel_rfl
 i4:=by kernel_rfl
 i5:=by kernel_rfl
 i9:=by kernel_rfl
 i20:=by kernel_rfl
 i21:=by kernel_rfl
 i37:=by kernel_rfl
 i46:=by kernel_rfl
 i51:=by kernel_rfl
 i53:=by kernel_rfl
 i75:=by kernel_rfl
 i76:=by kernel_rfl
 i80:=by kernel_rfl
 i85:=by kernel_rfl
 i127:=by kernel_rfl
 i143:=by kernel_rfl
 i145:=by kernel_rfl
 i167:=by kernel_rfl
 i168:=by kernel_rfl
 i171:=by kernel_rfl
 i173:=by kernel_rfl
 i175:=by kernel_rfl
 i210:=by kernel_rfl
 i212:=by kernel_rfl
 i232:=by kernel_rfl
 i233:=by kernel_rfl
 m15:=by kernel_rfl
 m16:=by kernel_rfl
 m17:=by kernel_rfl
 m18:=by kernel_rfl
 m19:=by kernel_rfl
 c0:=by kernel_rfl
 c2:=by kernel_rfl
 c3:=by kernel_rfl
 c4:=by kernel_rfl
 c5:=by kernel_rfl
 c9:=by kernel_rfl
 c20:=by kernel_rfl
 c21:=by kernel_rfl
 c37:=by kernel_rfl
 c46:=by kernel_rfl
 c51:=by kernel_rfl
 c53:=by kernel_rfl
 c75:=by kernel_rfl
 c76:=by kernel_rfl
 c80:=by kernel_rfl
 c85:=by kernel_rfl
 c127:=by kernel_rfl
 c143:=by kernel_rfl
 c145:=by kernel_rfl
 c167:=by kernel_rfl
 c168:=by kernel_rfl
 c171:=by kernel_rfl
 c173:=by kernel_rfl
 c175:=by kernel_rfl
 c210:=by kernel_rfl
 c212:=by kernel_rfl
 c213:=by kernel_rfl
 c232:=by kernel_rfl
 c233:=by kernel_rfl}
open Go.RowKit in
theorem Tryz.strconv_Atoi_ok (s:ByteArray)(hmax:s.size<=9223372036854775806)(v:Int)(h:Lib.atoiAll s.data.toList=.ok v)(w:World):
  Calls pG 238 #[.string s] w λe w'=>e=Rt (Tu #[I Y v,.nilIface])/\(w'=w\/∃t,w'=Lib.bytesWorld w 5 t):=Any.strconv_Atoi_ok Tryz.laysC172 s hmax v h w
open Go.RowKit in
theorem Tryz.strconv_Atoi_syntax (s:ByteArray)(hlim:s.size<=281474976710656)(h:Lib.atoiAll s.data.toList=.«syntax»)(ev:Value)(w:World)(hv:w.cell? ⟨2,0,nO⟩=sO ev)(hev:ev=.nilIface\/∃te pe,ev=.iface te pe):
  Calls pG 238 #[.string s] w λe w'=>∃N,e=Rt (Tu #[I Y (0),.iface 303 (Pp (sO ⟨N,0,nO⟩))])/\w.heap.size<=N/\w'.heap[N]? =sO (Cc #[.string ⟨#[65,116,111,105]⟩,.string s,ev] 315 (0,0))/\Below w.heap.size w w':=Any.strconv_Atoi_syntax Tryz.laysC172 s hlim h ev w hv hev
def Tryz.lays145_ren:Go.Shelf.Ren:=⟨λ|145=>173|220=>210|219=>236|217=>249|225=>250|224=>251|267=>252|266=>273|314=>274|n=>n,λ|9=>9|4=>4|59=>214|3=>3|5=>5|46=>235|146=>263|51=>262|n=>n,λ|1=>0|n=>n⟩
theorem Tryz.lays145:Go.Proofs.Lays.n145 pG Tryz.lays145_ren:={
 mixed:=by kernel_rfl
 f145:=func173.trans (congrArg sO (by kernel_rfl))
 f217:=func249.trans (congrArg sO (by kernel_rfl))
 f219:=func236.trans (congrArg sO (by kernel_rfl))
 f220:=func210.trans (congrArg sO (by kernel_rfl))
 f224:=func251.trans (congrArg sO (by kernel_rfl))
 f225:=func250.trans (congrArg sO (by kernel_rfl))
 f266:=func273.trans (congrArg sO (by kernel_rfl))
 f267:=func252.trans (congrArg sO (by kernel_rfl))
 f314:=func274.trans (congrArg sO (by kernel_rfl))
 t3:=underlying3
 a3:=isAgg3
 z3:=sizeOf3
 v3:=zeroValue3
 t4:=underlying4
 a4:=isAgg4
 z4:=sizeOf4
 v4:=zeroValue4
 t5:=underlying5
 a5:=isAgg5
 z5:=sizeOf5
 v5:=zeroValue5
 t9:=underlying9
 a9:=isAgg9
 z9:=sizeOf9
 v9:=zeroValue9
 t46:=underlying235
 a46:=isAgg235
 z46:=sizeOf235
 v46:=zeroValue235
 t51:=underlying262
 a51:=isAgg262
 z51:=sizeOf262
 v51:=zeroValue262
 t59:=underlying214
 a59:=isAgg214
 z59:=sizeOf214
 v59:=zeroValue214
 t146:=underlying263
 a146:=isAgg263
 z146:=sizeOf263
 v146:=zeroValue263
 g1:=by kernel_rfl}
open Go.RowKit Go.Lib in
theorem Tryz.strings_Cut (s sep:ByteArray)(m:Int)(w:World)(hs:s.size < 4294967281)(hm:w.cell? ⟨0,0,nO⟩=sO (I Y m)):
  Calls pG 173 #[.string s,.string sep] w λe w'=>e=Rt (Tu #[.string ⟨(Lib.cut s.data.toList sep.data.toList).1.toArray⟩,.string ⟨(Lib.cut s.data.toList sep.data.toList).2.1.toArray⟩,Bb (Lib.cut s.data.toList sep.data.toList).2.2])/\∃n,w'=w.drewN n:=Any.strings_Cut Tryz.lays145 s sep m w hs hm
def Tryz.lays189_ren:Go.Shelf.Ren:=⟨λ|189=>217|125=>244|257=>243|128=>272|129=>259|294=>263|295=>264|296=>265|297=>266|298=>267|299=>268|216=>269|300=>270|301=>271|328=>285|329=>286|330=>287|331=>288|332=>289|215=>290|343=>295|n=>n,λ|28=>34|3=>3|46=>235|0=>0|51=>262|53=>265|4=>4|183=>289|182=>288|131=>130|5=>5|9=>9|218=>306|222=>230|228=>319|229=>320|n=>n,λ|n=>n⟩
theorem Tryz.lays189:Go.Proofs.Lays.n189 pG Tryz.lays189_ren:={
 mixed:=by kernel_rfl
 f125:=func244.trans (congrArg sO (by kernel_rfl))
 f128:=func272.trans (congrArg sO (by kernel_rfl))
 f129:=func259.trans (congrArg sO (by kernel_rfl))
 f189:=func217.trans (congrArg sO (by kernel_rfl))
 f215:=func290.trans (congrArg sO (by kernel_rfl))
 f216:=func269.trans (congrArg sO (by kernel_rfl))
 f257:=func243.trans (congrArg sO (by kernel_rfl))
 f294:=func263.trans (congrArg sO (by kernel_rfl))
 f295:=func264.trans (congrArg sO (by kernel_rfl))
 f296:=func265.trans (congrArg sO (by kernel_rfl))
 f297:=func266.trans (congrArg sO (by kernel_rfl))
 f298:=func267.trans (congrArg sO (by kernel_rfl))
 f299:=func268.trans (congrArg sO (by kernel_rfl))
 f300:=func270.trans (congrArg sO (by kernel_rfl))
 f301:=func271.trans (congrArg sO (by kernel_rfl))
 f328:=func285.trans (congrArg sO (by kernel_rfl))
 f329:=func286.trans (congrArg sO (by kernel_rfl))
 f330:=func287.trans (congrArg sO (by kernel_rfl))
 f331:=func288.trans (congrArg sO (by kernel_rfl))
 f332:=func289.trans (congrArg sO (by kernel_rfl))
 f343:=func295.trans (congrArg sO (by kernel_rfl))
 t0:=underlying0
 a0:=isAgg0
 z0:=sizeOf0
 v0:=zeroValue0
 t3:=underlying3
 a3:=isAgg3
 z3:=sizeOf3
 v3:=zeroValue3
 t4:=underlying4
 a4:=isAgg4
 z4:=sizeOf4
 v4:=zeroValue4
 t5:=underlying5
 a5:=isAgg5
 z5:=sizeOf5
 v5:=zeroValue5
 t9:=underlying9
 a9:=isAgg9
 z9:=sizeOf9
 v9:=zeroValue9
 t28:=underlying34
 a28:=isAgg34
 z28:=sizeOf34
 v28:=zeroValue34
 t46:=underlying235
 a46:=isAgg235
 z46:=sizeOf235
 v46:=zeroValue235
 t51:=underlying262
 a51:=isAgg262
 z51:=sizeOf262
 v51:=zeroValue262
 t53:=underlying265
 a53:=isAgg265
 z53:=sizeOf265
 v53:=zeroValue265
 t131:=underlying130
 a131:=isAgg130
 z131:=sizeOf130
 v131:=zeroValue130
 t182:=underlying288
 a182:=isAgg288
 z182:=sizeOf288
 v182:=zeroValue288
 t183:=underlying289
 a183:=isAgg289
 z183:=sizeOf289
 v183:=zeroValue289
 t218:=underlying306
 a218:=isAgg306
 z218:=sizeOf306
 v218:=zeroValue306
 t222:=underlying230
 a222:=isAgg230
 z222:=sizeOf230
 v222:=zeroValue230
 t228:=underlying319
 a228:=isAgg319
 z228:=sizeOf319
 v228:=zeroValue319
 t229:=underlying320
 a229:=isAgg320
 z229:=sizeOf320
 v229:=zeroValue320}
open Go.Sort Go.RowKit in
theorem Tryz.slices_Sort_int (blk off cap:Nat)(zs:List Int)(w:World)(hH:Holds (Value.int .i64) w blk off zs.toArray)(hblk:blk < w.heap.size)(hsz:zs.length < 4611686018427387904):
  Calls pG 217 #[U (sO ⟨blk,off,nO⟩) zs.length cap] w λe w'=>
   e=Rt (Tu #[])/\∃n os,w'=grow (putRow (Value.int .i64) (Sort.ahead w n) blk off (zs.mergeSort λx y=>decide (x<=y)).toArray) os:=Any.slices_Sort_int Tryz.lays189 blk off cap zs w hH hblk hsz
def Tryz.lays146_ren:Go.Shelf.Ren:=⟨λ|146=>211|221=>237|268=>253|138=>254|143=>255|195=>275|197=>276|218=>277|219=>236|260=>291|217=>249|225=>250|224=>251|267=>252|266=>273|314=>274|n=>n,λ|9=>9|31=>31|3=>3|4=>4|0=>0|105=>298|21=>21|5=>5|46=>235|119=>322|139=>325|138=>324|146=>263|51=>262|n=>n,λ|1=>0|3=>6|4=>7|n=>n⟩
theorem Tryz.lays146:Go.Proofs.Lays.n146 pG Tryz.lays146_ren:={
 mixed:=by kernel_rfl
 f138:=func254.trans (congrArg sO (by kernel_rfl))
 f143:=func255.trans (congrArg sO (by kernel_rfl))
 f146:=func211.trans (congrArg sO (by kernel_rfl))
 f195:=func275.trans (congrArg sO (by kernel_rfl))
 f197:=func276.trans (congrArg sO (by kernel_rfl))
 f217:=func249.trans (congrArg sO (by kernel_rfl))
 f218:=func277.trans (congrArg sO (by kernel_rfl))
 f219:=func236.trans (congrArg sO (by kernel_rfl))
 f221:=func237.trans (congrArg sO (by kernel_rfl))
 f224:=func251.trans (congrArg sO (by kernel_rfl))
 f225:=func250.trans (congrArg sO (by kernel_rfl))
 f260:=func291.trans (congrArg sO (by kernel_rfl))
 f266:=func273.trans (congrArg sO (by kernel_rfl))
 f267:=func252.trans (congrArg sO (by kernel_rfl))
 f268:=func253.trans (congrArg sO (by kernel_rfl))
 f314:=func274.trans (congrArg sO (by kernel_rfl))
 t0:=underlying0
 a0:=isAgg0
 z0:=sizeOf0
 v0:=zeroValue0
 t3:=underlying3
 a3:=isAgg3
 z3:=sizeOf3
 v3:=zeroValue3
 t4:=underlying4
 a4:=isAgg4
 z4:=sizeOf4
 v4:=zeroValue4
 t5:=underlying5
 a5:=isAgg5
 z5:=sizeOf5
 v5:=zeroValue5
 t9:=underlying9
 a9:=isAgg9
 z9:=sizeOf9
 v9:=zeroValue9
 t21:=underlying21
 a21:=isAgg21
 z21:=sizeOf21
 v21:=zeroValue21
 t31:=underlying31
 a31:=isAgg31
 z31:=sizeOf31
 v31:=zeroValue31
 t46:=underlying235
 a46:=isAgg235
 z46:=sizeOf235
 v46:=zeroValue235
 t51:=underlying262
 a51:=isAgg262
 z51:=sizeOf262
 v51:=zeroValue262
 t105:=underlying298
 a105:=isAgg298
 z105:=sizeOf298
 v105:=zeroValue298
 t119:=underlying322
 a119:=isAgg322
 z119:=sizeOf322
 t138:=underlying324
 a138:=isAgg324
 z138:=sizeOf324
 v138:=zeroValue324
 t139:=underlying325
 a139:=isAgg325
 z139:=sizeOf325
 v139:=zeroValue325
 t146:=underlying263
 a146:=isAgg263
 z146:=sizeOf263
 v146:=zeroValue263
 g1:=by kernel_rfl
 g3:=by kernel_rfl
 g4:=by kernel_rfl}
open Go.RowKit Go.Lib in
theorem Tryz.strings_Split (s sep:ByteArray)(m:Int)(w:World)(hs:s.size < 4294967281)(hm:w.cell? ⟨0,0,nO⟩=sO (I Y m))(h1:1<=sep.size):
  Calls pG 211 #[.string s,.string sep] w λe w'=>
   e=Rt (U (sO ⟨w.heap.size,0,nO⟩) (Lib.countB s sep+1) (Lib.countB s sep+1))/\w'=w.alloc (Cc ((Lib.splitB sep 0 (Lib.countB s sep) s).map Value.string).toArray 9):=Any.strings_Split Tryz.lays146 (by kernel_rfl) s sep m w hs hm h1
def Tryz.lays212_ren:Go.Shelf.Ren:=⟨λ|212=>187|263=>220|264=>221|n=>n,λ|46=>235|51=>262|146=>263|53=>265|148=>266|n=>n,λ|n=>n⟩
theorem Tryz.lays212:Go.Proofs.Lays.n212 pG Tryz.lays212_ren:={
 mixed:=by kernel_rfl
 f212:=func187.trans (congrArg sO (by kernel_rfl))
 f263:=func220.trans (congrArg sO (by kernel_rfl))
 f264:=func221.trans (congrArg sO (by kernel_rfl))
 t46:=underlying235
 a46:=isAgg235
 z46:=sizeOf235
 v46:=zeroValue235
 t51:=underlying262
 a51:=isAgg262
 z51:=sizeOf262
 v51:=zeroValue262
 t53:=underlying265
 a53:=isAgg265
 z53:=sizeOf265
 v53:=zeroValue265
 t146:=underlying263
 a146:=isAgg263
 z146:=sizeOf263
 v146:=zeroValue263
 t148:=underlying266
 a148:=isAgg266
 z148:=sizeOf266
 v148:=zeroValue266}
open Go.RowKit Go.Lib in
theorem Tryz.bits_Mul (x y:Nat)(hx:x < 18446744073709551616)(hy:y < 18446744073709551616)(w:World):
  Calls pG 187 #[.int .u64 x,.int .u64 y] w λe w'=>e=Rt (Tu #[.int .u64 ((x * y / 18446744073709551616:Nat):Int),.int .u64 ((x * y % 18446744073709551616:Nat):Int)])/\w'=w:=Any.bits_Mul Tryz.lays212 x y hx hy w
def Tryz.lays111_ren:Go.Shelf.Ren:=⟨λ|111=>216|n=>n,λ|28=>34|3=>3|4=>4|0=>0|n=>n,λ|n=>n⟩
theorem Tryz.lays111:Go.Proofs.Lays.n111 pG Tryz.lays111_ren:={
 mixed:=by kernel_rfl
 f111:=func216.trans (congrArg sO (by kernel_rfl))
 t0:=underlying0
 a0:=isAgg0
 z0:=sizeOf0
 v0:=zeroValue0
 t3:=underlying3
 a3:=isAgg3
 z3:=sizeOf3
 v3:=zeroValue3
 t4:=underlying4
 a4:=isAgg4
 z4:=sizeOf4
 v4:=zeroValue4
 t28:=underlying34
 a28:=isAgg34
 z28:=sizeOf34
 v28:=zeroValue34}
open Go.RowKit Go.Lib in
theorem Tryz.slices_Equal_int (b1 o1 n c b2 o2 m d:Nat)(xs ys:List Int)(w:World)(hx:n<=xs.length)(hy:m<=ys.length)(hbig:n<=9223372036854775807)(hbig2:m<=9223372036854775807)(hc1:∀j,j < xs.length->w.cell? ⟨b1,o1+j,nO⟩=sO (I Y (xs.getD j 0)))(hc2:∀j,j < ys.length->w.cell? ⟨b2,o2+j,nO⟩=sO (I Y (ys.getD j 0))):
  Calls pG 216 #[U (sO ⟨b1,o1,nO⟩) n c,U (sO ⟨b2,o2,nO⟩) m d] w λe w'=>e=Rt (Bb (xs.take n==ys.take m))/\∃q,w'=w.drewN q:=Any.slices_Equal_int Tryz.lays111 b1 o1 n c b2 o2 m d xs ys w hx hy hbig hbig2 hc1 hc2
open Go.RowKit Go.Lib in
theorem Tryz.slices_Equal_int_empty (a1 a2:Option Addr)(c m d:Nat)(w:World)(hbig2:m<=9223372036854775807):
  Calls pG 216 #[U a1 0 c,U a2 m d] w λe w'=>e=Rt (Bb (decide (m=0)))/\w'=w:=Any.slices_Equal_int_empty Tryz.lays111 a1 a2 c m d w hbig2
def Tryz.laysNm215_ren:Go.Shelf.Ren:=⟨λ|15=>179|n=>n,λ|22=>34|3=>3|4=>4|n=>n,λ|n=>n⟩
theorem Tryz.laysNm215:Go.Proofs.Lays2.n15 pG Tryz.laysNm215_ren:={
 mixed:=by kernel_rfl
 f15:=func179.trans (congrArg sO (by kernel_rfl))
 t3:=underlying3
 a3:=isAgg3
 z3:=sizeOf3
 v3:=zeroValue3
 t4:=underlying4
 a4:=isAgg4
 z4:=sizeOf4
 v4:=zeroValue4
 t22:=underlying34
 a22:=isAgg34
 z22:=sizeOf34
 v22:=zeroValue34
 i3:=by kernel_rfl}
open Go.RowKit Go.Lib in
theorem Tryz.slices_Clone_int (b off n c:Nat)(zs:List Int)(w:World)(hz:n<=zs.length)(hbig:n * 8<=140737488355328)(hc:∀j,j < zs.length->w.cell? ⟨b,off+j,nO⟩=sO (I Y (zs.getD j 0))):
  Calls pG 179 #[U (sO ⟨b,off,nO⟩) n c] w λe w'=>∃v',e=Rt v'/\w'.ownsRow w.heap.size 3 1 v' n ((zs.take n).map (Value.int .i64))/\v'≠U nO 0 0/\Below w.heap.size w w':=Any.slices_Clone_int Tryz.laysNm215 b off n c zs w hz hbig hc
open Go.RowKit Go.Lib in
theorem Tryz.slices_Clone_int_nil (n c:Nat)(w:World):
  Calls pG 179 #[U nO n c] w λe w'=>e=Rt (U nO 0 0)/\w'=w:=Any.slices_Clone_int_nil Tryz.laysNm215 n c w
open Go.RowKit Go.Lib in
theorem Tryz.slices_Clone_int_zero (a:Addr)(c:Nat)(w:World):
  Calls pG 179 #[U (sO a) 0 c] w λe w'=>∃v',e=Rt v'/\w'.ownsRow w.heap.size 3 1 v' 0 []/\v'≠U nO 0 0/\Below w.heap.size w w':=Any.slices_Clone_int_zero Tryz.laysNm215 a c w
def Tryz.laysNm220_ren:Go.Shelf.Ren:=⟨λ|20=>218|n=>n,λ|22=>34|3=>3|4=>4|0=>0|n=>n,λ|n=>n⟩
theorem Tryz.laysNm220:Go.Proofs.Lays2.n20 pG Tryz.laysNm220_ren:={
 mixed:=by kernel_rfl
 f20:=func218.trans (congrArg sO (by kernel_rfl))
 t0:=underlying0
 a0:=isAgg0
 z0:=sizeOf0
 v0:=zeroValue0
 t3:=underlying3
 a3:=isAgg3
 z3:=sizeOf3
 v3:=zeroValue3
 t4:=underlying4
 a4:=isAgg4
 z4:=sizeOf4
 v4:=zeroValue4
 t22:=underlying34
 a22:=isAgg34
 z22:=sizeOf34
 v22:=zeroValue34
 i3:=by kernel_rfl}
open Go.RowKit Go.Lib Go.Sort in
theorem Tryz.slices_Compact_int (blk off cap:Nat)(zs:List Int)(w:World)(hH:Holds (Value.int .i64) w blk off zs.toArray)(hsz:zs.length<=9223372036854775807)(hcap:zs.length<=cap):
  Calls pG 218 #[U (sO ⟨blk,off,nO⟩) zs.length cap] w λe w'=>e=Rt (U (sO ⟨blk,off,nO⟩) (Lib.compact zs).length cap)/\∃q,w'=putRow (Value.int .i64) (Sort.ahead w q) blk off (Lib.compact zs++List.replicate (zs.length - (Lib.compact zs).length) 0).toArray:=Any.slices_Compact_int Tryz.laysNm220 blk off cap zs w hH hsz hcap
open Go.RowKit Go.Lib Go.Sort in
theorem Tryz.slices_Compact_int_empty (a:Option Addr)(cap:Nat)(w:World):
  Calls pG 218 #[U a 0 cap] w λe w'=>e=Rt (U a 0 cap)/\w'=w:=Any.slices_Compact_int_empty Tryz.laysNm220 a cap w
open Go.RowKit Go.Sort in
theorem Tryz.slices_Sort_int_none (p:Option Addr)(cap:Nat)(w:World):
  Calls pG 217 #[U p 0 cap] w λe w'=>e=Rt (Tu #[])/\w'=w:=Any.slices_Sort_int_none Tryz.lays189 p cap w
end Go.Proofs
namespace Go.Proofs.YtmapdpcfanecdabGreatDoor
end Go.Proofs.YtmapdpcfanecdabGreatDoor
