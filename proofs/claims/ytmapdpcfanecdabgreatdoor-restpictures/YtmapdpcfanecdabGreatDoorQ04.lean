import Derived.Test.YtmapdpcfanecdabGreatDoorQ03
set_option linter.all false
open Go.Ending renaming returned→Rt
open Go.IntKind renaming i64→Y
open Go.Proofs.Tryz renaming prog→f
open Go.Value renaming agg→Ag,int→I,slice→U
open Go renaming World→C
open Go.Proofs.Tryz
set_option maxHeartbeats 4000000
namespace Go.Proofs.YtmapdpcfanecdabGreatDoor
variable (V F:Int)(s:oA)(len cap:Nat)(c a b n g:Int)(w:C)
section
open Go.RowKit
section
variable (l:1<=V)(i:V<=8)
def Tn(m:0<=F)(j:F<=3)(k:len<=60):
  Calls f 58 #[Ag #[I Y V,I Y F,U s len cap],Ag #[I Y 14,I Y c,I Y a,I Y b,I Y n,I Y g]] w λe w'=>e=Rt (I Y (bo V F len ⟨14,c,a,b,n,g⟩))/\bl w w':=by
 have q:(bi 14).toList.isEmpty=false:=dO;have t:nTo 14=true:=rfl;have o:nA 14=false:=rfl;have v:nB 14=false:=rfl;have r:nN 14=true:=rfl;have u:nG 14=false:=rfl;exact cy

def TE(m:0<=F)(j:F<=3)(k:len<=60):
  Calls f 58 #[Ag #[I Y V,I Y F,U s len cap],Ag #[I Y 15,I Y c,I Y a,I Y b,I Y n,I Y g]] w λe w'=>e=Rt (I Y (bo V F len ⟨15,c,a,b,n,g⟩))/\bl w w':=by
 have q:(bi 15).toList.isEmpty=false:=dO;have t:nTo 15=false:=rfl;have o:nA 15=true:=rfl;have v:nB 15=false:=rfl;have r:nN 15=false:=rfl;have u:nG 15=true:=rfl;exact cy

def T0(m:0<=F)(j:F<=3)(k:len<=60):
  Calls f 58 #[Ag #[I Y V,I Y F,U s len cap],Ag #[I Y 16,I Y c,I Y a,I Y b,I Y n,I Y g]] w λe w'=>e=Rt (I Y (bo V F len ⟨16,c,a,b,n,g⟩))/\bl w w':=by
 have q:(bi 16).toList.isEmpty=false:=dO;have t:nTo 16=false:=rfl;have o:nA 16=false:=rfl;have v:nB 16=false:=rfl;have r:nN 16=false:=rfl;have u:nG 16=true:=rfl;exact cy

def TL(m:0<=F)(j:F<=3)(k:len<=60):
  Calls f 58 #[Ag #[I Y V,I Y F,U s len cap],Ag #[I Y 17,I Y c,I Y a,I Y b,I Y n,I Y g]] w λe w'=>e=Rt (I Y (bo V F len ⟨17,c,a,b,n,g⟩))/\bl w w':=by
 have q:(bi 17).toList.isEmpty=false:=dO;have t:nTo 17=false:=rfl;have o:nA 17=true:=rfl;have v:nB 17=false:=rfl;have r:nN 17=false:=rfl;have u:nG 17=false:=rfl;exact cy

def SK(m:0<=F)(j:F<=3)(k:len<=60):
  Calls f 58 #[Ag #[I Y V,I Y F,U s len cap],Ag #[I Y 18,I Y c,I Y a,I Y b,I Y n,I Y g]] w λe w'=>e=Rt (I Y (bo V F len ⟨18,c,a,b,n,g⟩))/\bl w w':=by
 have q:(bi 18).toList.isEmpty=false:=dO;have t:nTo 18=false:=rfl;have o:nA 18=true:=rfl;have v:nB 18=false:=rfl;have r:nN 18=false:=rfl;have u:nG 18=false:=rfl;exact cy
end
