import Derived.Test.YtmapdpcfanecdabGreatS03
open Go.Ending renaming returned→Rt
open Go.IntKind renaming i64→Y
open Go.Proofs.Tryz renaming prog→pG
open Go.Value renaming agg→Ag,int→I,slice→U
set_option linter.unusedSimpArgs false
set_option linter.unusedVariables false
set_option maxHeartbeats 4000000
namespace Go.Proofs.YtmapdpcfanecdabGreat
section
open Go.RowKit
theorem vO (V F:Int)(s:oA)(len cap:Nat)(tto a b n g:Int)(w:World)(_hV:1<=V)(_hV':V<=8)(_hF:0<=F)(_hF':F<=3)(_hL:len<=60):
  Calls pG 39 #[Ag #[I Y V,I Y F,U s len cap],Ag #[I Y 5,I Y tto,I Y a,I Y b,I Y n,I Y g]] w λe w'=>e=Rt (I Y (aU V F len ⟨5,tto,a,b,n,g⟩))/\Below w.heap.size w w':=by
 have t0:(aJ 5).toList.isEmpty=false:=by rw[ByteArray.toList_eq];rfl
 have t1:nTo 5=true:=rfl;have t2:nA 5=true:=rfl;have t3:nB 5=true:=rfl;have t4:nN 5=false:=rfl;have t5:nG 5=false:=rfl;exact bC

theorem wG (V F:Int)(s:oA)(len cap:Nat)(tto a b n g:Int)(w:World)(_hV:1<=V)(_hV':V<=8)(_hF:0<=F)(_hF':F<=3)(_hL:len<=60):
  Calls pG 39 #[Ag #[I Y V,I Y F,U s len cap],Ag #[I Y 6,I Y tto,I Y a,I Y b,I Y n,I Y g]] w λe w'=>e=Rt (I Y (aU V F len ⟨6,tto,a,b,n,g⟩))/\Below w.heap.size w w':=by
 have t0:(aJ 6).toList.isEmpty=false:=by rw[ByteArray.toList_eq];rfl
 have t1:nTo 6=true:=rfl;have t2:nA 6=true:=rfl;have t3:nB 6=true:=rfl;have t4:nN 6=false:=rfl;have t5:nG 6=false:=rfl;exact bC

theorem vt (V F:Int)(s:oA)(len cap:Nat)(tto a b n g:Int)(w:World)(_hV:1<=V)(_hV':V<=8)(_hF:0<=F)(_hF':F<=3)(_hL:len<=60):
  Calls pG 39 #[Ag #[I Y V,I Y F,U s len cap],Ag #[I Y 7,I Y tto,I Y a,I Y b,I Y n,I Y g]] w λe w'=>e=Rt (I Y (aU V F len ⟨7,tto,a,b,n,g⟩))/\Below w.heap.size w w':=by
 have t0:(aJ 7).toList.isEmpty=false:=by rw[ByteArray.toList_eq];rfl
 have t1:nTo 7=true:=rfl;have t2:nA 7=true:=rfl;have t3:nB 7=true:=rfl;have t4:nN 7=false:=rfl;have t5:nG 7=false:=rfl;exact bC

theorem vG (V F:Int)(s:oA)(len cap:Nat)(tto a b n g:Int)(w:World)(_hV:1<=V)(_hV':V<=8)(_hF:0<=F)(_hF':F<=3)(_hL:len<=60):
  Calls pG 39 #[Ag #[I Y V,I Y F,U s len cap],Ag #[I Y 8,I Y tto,I Y a,I Y b,I Y n,I Y g]] w λe w'=>e=Rt (I Y (aU V F len ⟨8,tto,a,b,n,g⟩))/\Below w.heap.size w w':=by
 have t0:(aJ 8).toList.isEmpty=false:=by rw[ByteArray.toList_eq];rfl
 have t1:nTo 8=true:=rfl;have t2:nA 8=true:=rfl;have t3:nB 8=true:=rfl;have t4:nN 8=false:=rfl;have t5:nG 8=false:=rfl;exact bC

theorem ux (V F:Int)(s:oA)(len cap:Nat)(k tto a b n g:Int)(w:World)(_hV:1<=V)(_hV':V<=8)(_hF:0<=F)(_hF':F<=3)(_hL:len<=60)(hk:btw k 1 19=false):
  Calls pG 39 #[Ag #[I Y V,I Y F,U s len cap],Ag #[I Y k,I Y tto,I Y a,I Y b,I Y n,I Y g]] w λe w'=>e=Rt (I Y (aU V F len ⟨k,tto,a,b,n,g⟩))/\Below w.heap.size w w':=by
 have t0:(aJ k).toList.isEmpty=true:=by rw[oV hk,ByteArray.toList_eq];rfl
 exact bC
end
end Go.Proofs.YtmapdpcfanecdabGreat
