import Derived.Test.YtmapdpcfanecdabGreatDoorU05
open Go.Ending renaming returned→Rt
open Go.IntKind renaming i64→Y
open Go.Proofs.Tryz renaming prog→pG
open Go.Value renaming agg→Ag,int→I,slice→U
set_option linter.unusedSimpArgs false
set_option linter.unusedVariables false
set_option maxHeartbeats 4000000
namespace Go.Proofs.YtmapdpcfanecdabGreatDoor
section
open Go.RowKit
theorem EK (V F:Int)(s:oA)(len cap:Nat)(tto a b n g:Int)(w:World)(_hV:1<=V)(_hV':V<=8)(_hF:0<=F)(_hF':F<=3)(_hL:len<=60):
  Calls pG 58 #[Ag #[I Y V,I Y F,U s len cap],Ag #[I Y 9,I Y tto,I Y a,I Y b,I Y n,I Y g]] w λe w'=>e=Rt (I Y (bk V F len ⟨9,tto,a,b,n,g⟩))/\bl w w':=by
 have t0:(aQ 9).toList.isEmpty=false:=cT;have t1:nTo 9=true:=rfl;have t2:nA 9=true:=rfl;have t3:nB 9=true:=rfl;have t4:nN 9=false:=rfl;have t5:nG 9=false:=rfl;exact bS

theorem Bp (V F:Int)(s:oA)(len cap:Nat)(tto a b n g:Int)(w:World)(_hV:1<=V)(_hV':V<=8)(_hF:0<=F)(_hF':F<=3)(_hL:len<=60):
  Calls pG 58 #[Ag #[I Y V,I Y F,U s len cap],Ag #[I Y 10,I Y tto,I Y a,I Y b,I Y n,I Y g]] w λe w'=>e=Rt (I Y (bk V F len ⟨10,tto,a,b,n,g⟩))/\bl w w':=by
 have t0:(aQ 10).toList.isEmpty=false:=cT;have t1:nTo 10=true:=rfl;have t2:nA 10=true:=rfl;have t3:nB 10=false:=rfl;have t4:nN 10=false:=rfl;have t5:nG 10=false:=rfl;exact bS

theorem BG (V F:Int)(s:oA)(len cap:Nat)(tto a b n g:Int)(w:World)(_hV:1<=V)(_hV':V<=8)(_hF:0<=F)(_hF':F<=3)(_hL:len<=60):
  Calls pG 58 #[Ag #[I Y V,I Y F,U s len cap],Ag #[I Y 11,I Y tto,I Y a,I Y b,I Y n,I Y g]] w λe w'=>e=Rt (I Y (bk V F len ⟨11,tto,a,b,n,g⟩))/\bl w w':=by
 have t0:(aQ 11).toList.isEmpty=false:=cT;have t1:nTo 11=true:=rfl;have t2:nA 11=false:=rfl;have t3:nB 11=false:=rfl;have t4:nN 11=false:=rfl;have t5:nG 11=false:=rfl;exact bS

theorem Bn (V F:Int)(s:oA)(len cap:Nat)(tto a b n g:Int)(w:World)(_hV:1<=V)(_hV':V<=8)(_hF:0<=F)(_hF':F<=3)(_hL:len<=60):
  Calls pG 58 #[Ag #[I Y V,I Y F,U s len cap],Ag #[I Y 12,I Y tto,I Y a,I Y b,I Y n,I Y g]] w λe w'=>e=Rt (I Y (bk V F len ⟨12,tto,a,b,n,g⟩))/\bl w w':=by
 have t0:(aQ 12).toList.isEmpty=false:=cT;have t1:nTo 12=true:=rfl;have t2:nA 12=true:=rfl;have t3:nB 12=false:=rfl;have t4:nN 12=true:=rfl;have t5:nG 12=false:=rfl;exact bS

theorem Cm (V F:Int)(s:oA)(len cap:Nat)(tto a b n g:Int)(w:World)(_hV:1<=V)(_hV':V<=8)(_hF:0<=F)(_hF':F<=3)(_hL:len<=60):
  Calls pG 58 #[Ag #[I Y V,I Y F,U s len cap],Ag #[I Y 13,I Y tto,I Y a,I Y b,I Y n,I Y g]] w λe w'=>e=Rt (I Y (bk V F len ⟨13,tto,a,b,n,g⟩))/\bl w w':=by
 have t0:(aQ 13).toList.isEmpty=false:=cT;have t1:nTo 13=false:=rfl;have t2:nA 13=true:=rfl;have t3:nB 13=true:=rfl;have t4:nN 13=true:=rfl;have t5:nG 13=false:=rfl;exact bS
end
end Go.Proofs.YtmapdpcfanecdabGreatDoor
