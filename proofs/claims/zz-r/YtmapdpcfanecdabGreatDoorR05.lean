import Derived.Test.YtmapdpcfanecdabGreatDoorR04
open Go.Ending renaming returned→Rt
open Go.IntKind renaming i64→Y
open Go.Proofs.Tryz renaming prog→pG
open Go.Value renaming agg→Ag,int→I,slice→U
set_option linter.unusedSimpArgs false
set_option linter.unusedVariables false
set_option maxHeartbeats 4000000
namespace Go.Proofs.YtmapdpcfanecdabGreatDoor
section
open Go.RowKit
theorem Pm (V F:Int)(s:oA)(len cap:Nat)(tto a b n g:Int)(w:World)(_hV:1<=V)(_hV':V<=8)(_hF:0<=F)(_hF':F<=3)(_hL:len<=60):
  Calls pG 58 #[Ag #[I Y V,I Y F,U s len cap],Ag #[I Y 1,I Y tto,I Y a,I Y b,I Y n,I Y g]] w λe w'=>e=Rt (I Y (bm V F len ⟨1,tto,a,b,n,g⟩))/\bl w w':=by
 have t0:(aK 1).toList.isEmpty=false:=c7;have t1:nTo 1=true:=rfl;have t2:nA 1=false:=rfl;have t3:nB 1=false:=rfl;have t4:nN 1=true:=rfl;have t5:nG 1=false:=rfl;exact bT

theorem O6 (V F:Int)(s:oA)(len cap:Nat)(tto a b n g:Int)(w:World)(_hV:1<=V)(_hV':V<=8)(_hF:0<=F)(_hF':F<=3)(_hL:len<=60):
  Calls pG 58 #[Ag #[I Y V,I Y F,U s len cap],Ag #[I Y 2,I Y tto,I Y a,I Y b,I Y n,I Y g]] w λe w'=>e=Rt (I Y (bm V F len ⟨2,tto,a,b,n,g⟩))/\bl w w':=by
 have t0:(aK 2).toList.isEmpty=false:=c7;have t1:nTo 2=true:=rfl;have t2:nA 2=false:=rfl;have t3:nB 2=false:=rfl;have t4:nN 2=true:=rfl;have t5:nG 2=false:=rfl;exact bT

theorem ON (V F:Int)(s:oA)(len cap:Nat)(tto a b n g:Int)(w:World)(_hV:1<=V)(_hV':V<=8)(_hF:0<=F)(_hF':F<=3)(_hL:len<=60):
  Calls pG 58 #[Ag #[I Y V,I Y F,U s len cap],Ag #[I Y 3,I Y tto,I Y a,I Y b,I Y n,I Y g]] w λe w'=>e=Rt (I Y (bm V F len ⟨3,tto,a,b,n,g⟩))/\bl w w':=by
 have t0:(aK 3).toList.isEmpty=false:=c7;have t1:nTo 3=true:=rfl;have t2:nA 3=false:=rfl;have t3:nB 3=false:=rfl;have t4:nN 3=false:=rfl;have t5:nG 3=false:=rfl;exact bT

theorem O7 (V F:Int)(s:oA)(len cap:Nat)(tto a b n g:Int)(w:World)(_hV:1<=V)(_hV':V<=8)(_hF:0<=F)(_hF':F<=3)(_hL:len<=60):
  Calls pG 58 #[Ag #[I Y V,I Y F,U s len cap],Ag #[I Y 4,I Y tto,I Y a,I Y b,I Y n,I Y g]] w λe w'=>e=Rt (I Y (bm V F len ⟨4,tto,a,b,n,g⟩))/\bl w w':=by
 have t0:(aK 4).toList.isEmpty=false:=c7;have t1:nTo 4=true:=rfl;have t2:nA 4=true:=rfl;have t3:nB 4=false:=rfl;have t4:nN 4=false:=rfl;have t5:nG 4=false:=rfl;exact bT

theorem Ls (V F:Int)(s:oA)(len cap:Nat)(tto a b n g:Int)(w:World)(_hV:1<=V)(_hV':V<=8)(_hF:0<=F)(_hF':F<=3)(_hL:len<=60):
  Calls pG 58 #[Ag #[I Y V,I Y F,U s len cap],Ag #[I Y 19,I Y tto,I Y a,I Y b,I Y n,I Y g]] w λe w'=>e=Rt (I Y (bm V F len ⟨19,tto,a,b,n,g⟩))/\bl w w':=by
 have t0:(aK 19).toList.isEmpty=false:=c7;have t1:nTo 19=false:=rfl;have t2:nA 19=false:=rfl;have t3:nB 19=false:=rfl;have t4:nN 19=false:=rfl;have t5:nG 19=false:=rfl;exact bT
end
end Go.Proofs.YtmapdpcfanecdabGreatDoor
