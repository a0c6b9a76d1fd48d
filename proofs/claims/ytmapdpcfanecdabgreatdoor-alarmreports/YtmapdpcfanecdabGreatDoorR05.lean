import Derived.Test.YtmapdpcfanecdabGreatDoorR04
open Go.Ending renaming returned→Rt
open Go.IntKind renaming i64→Y
open Go.Proofs.Tryz renaming prog→pG
open Go.Value renaming agg→Ag,int→I,slice→U
open Go.Proofs.Tryz
set_option linter.unusedSimpArgs false
set_option linter.unusedVariables false
set_option maxHeartbeats 4000000
namespace Go.Proofs.YtmapdpcfanecdabGreatDoor
section
open Go.RowKit
theorem Ln (V F:Int)(s:oA)(len cap:Nat)(tto a b n g:Int)(w:World)(_hV:1<=V)(_hV':V<=8)(_hF:0<=F)(_hF':F<=3)(_hL:len<=60):
  Calls pG 58 #[Ag #[I Y V,I Y F,U s len cap],Ag #[I Y 14,I Y tto,I Y a,I Y b,I Y n,I Y g]] w λe w'=>e=Rt (I Y (bn V F len ⟨14,tto,a,b,n,g⟩))/\bl w w':=by
 have t0:(aL 14).toList.isEmpty=false:=dg;have t1:nTo 14=true:=rfl;have t2:nA 14=false:=rfl;have t3:nB 14=false:=rfl;have t4:nN 14=true:=rfl;have t5:nG 14=false:=rfl;exact bU

theorem LC (V F:Int)(s:oA)(len cap:Nat)(tto a b n g:Int)(w:World)(_hV:1<=V)(_hV':V<=8)(_hF:0<=F)(_hF':F<=3)(_hL:len<=60):
  Calls pG 58 #[Ag #[I Y V,I Y F,U s len cap],Ag #[I Y 15,I Y tto,I Y a,I Y b,I Y n,I Y g]] w λe w'=>e=Rt (I Y (bn V F len ⟨15,tto,a,b,n,g⟩))/\bl w w':=by
 have t0:(aL 15).toList.isEmpty=false:=dg;have t1:nTo 15=false:=rfl;have t2:nA 15=true:=rfl;have t3:nB 15=false:=rfl;have t4:nN 15=false:=rfl;have t5:nG 15=true:=rfl;exact bU

theorem Lq (V F:Int)(s:oA)(len cap:Nat)(tto a b n g:Int)(w:World)(_hV:1<=V)(_hV':V<=8)(_hF:0<=F)(_hF':F<=3)(_hL:len<=60):
  Calls pG 58 #[Ag #[I Y V,I Y F,U s len cap],Ag #[I Y 16,I Y tto,I Y a,I Y b,I Y n,I Y g]] w λe w'=>e=Rt (I Y (bn V F len ⟨16,tto,a,b,n,g⟩))/\bl w w':=by
 have t0:(aL 16).toList.isEmpty=false:=dg;have t1:nTo 16=false:=rfl;have t2:nA 16=false:=rfl;have t3:nB 16=false:=rfl;have t4:nN 16=false:=rfl;have t5:nG 16=true:=rfl;exact bU

theorem Lg (V F:Int)(s:oA)(len cap:Nat)(tto a b n g:Int)(w:World)(_hV:1<=V)(_hV':V<=8)(_hF:0<=F)(_hF':F<=3)(_hL:len<=60):
  Calls pG 58 #[Ag #[I Y V,I Y F,U s len cap],Ag #[I Y 17,I Y tto,I Y a,I Y b,I Y n,I Y g]] w λe w'=>e=Rt (I Y (bn V F len ⟨17,tto,a,b,n,g⟩))/\bl w w':=by
 have t0:(aL 17).toList.isEmpty=false:=dg;have t1:nTo 17=false:=rfl;have t2:nA 17=true:=rfl;have t3:nB 17=false:=rfl;have t4:nN 17=false:=rfl;have t5:nG 17=false:=rfl;exact bU

theorem Lt (V F:Int)(s:oA)(len cap:Nat)(tto a b n g:Int)(w:World)(_hV:1<=V)(_hV':V<=8)(_hF:0<=F)(_hF':F<=3)(_hL:len<=60):
  Calls pG 58 #[Ag #[I Y V,I Y F,U s len cap],Ag #[I Y 18,I Y tto,I Y a,I Y b,I Y n,I Y g]] w λe w'=>e=Rt (I Y (bn V F len ⟨18,tto,a,b,n,g⟩))/\bl w w':=by
 have t0:(aL 18).toList.isEmpty=false:=dg;have t1:nTo 18=false:=rfl;have t2:nA 18=true:=rfl;have t3:nB 18=false:=rfl;have t4:nN 18=false:=rfl;have t5:nG 18=false:=rfl;exact bU
end
end Go.Proofs.YtmapdpcfanecdabGreatDoor
