import Derived.Test.YtmapdpcfanecdabGreatDoorQ07
open Array renaming size→R
open Go.World renaming heap→M
open Go.Ending renaming returned→Rt
open Go.IntKind renaming i64→Y
open Go.Proofs.Tryz renaming prog→f
open Go.Value renaming int→I,bool→O
open Option renaming none→E,some→G
open Go renaming World→C
open Bool renaming false→d,true→W5
open Go.Proofs.Tryz
set_option linter.all false
set_option maxHeartbeats 8000000
set_option maxRecDepth 20000
namespace Go.Proofs.YtmapdpcfanecdabGreatDoor
section
section
open Go.RowKit
def WX (lo hi b a:Int)(w:C):
  Calls f 167 #[sv ⟨d,lo,hi⟩,sv ⟨d,b,a⟩,O d] w λe w'=>e=Rt (sv ⟨d,min lo b,max hi a⟩)/\bl w w':=by
 go_enter func167,ntmps167;go_wp2;go_region_held3 (λw'=>w'.cell? ⟨R (M w),1,E⟩=G (I Y lo)/\w'.cell? ⟨R (M w),2,E⟩=G (I Y hi)/\w'.cell? ⟨R (M w)+1,1,E⟩=G (I Y b)/\w'.cell? ⟨R (M w)+1,2,E⟩=G (I Y a)) (simp[go_sem])
  (first
   |(go_at_call 207;refine(Rr _ _ lo b _ aE aE).mono ?_;rintro e w' ⟨rfl,rfl⟩)
   |(go_at_call 208;refine(WM _ _ hi a _ aE aE).mono ?_;rintro e w' ⟨rfl,rfl⟩))
 all_goals go_wp2
 all_goals go_returns
 all_goals exact⟨rfl,ai⟩
end
end
section
open Go.RowKit
def Wy (lo hi b a:Int)(w:C):
  Calls f 167 #[sv ⟨d,lo,hi⟩,sv ⟨d,b,a⟩,O W5] w λe w'=>e=Rt (sv (bH ⟨d,lo,hi⟩ ⟨d,b,a⟩))/\bl w w':=by
 go_enter func167,ntmps167;go_wp2;go_region_held3 (λw'=>w'.cell? ⟨R (M w),1,E⟩=G (I Y lo)/\w'.cell? ⟨R (M w),2,E⟩=G (I Y hi)/\w'.cell? ⟨R (M w)+1,1,E⟩=G (I Y b)/\w'.cell? ⟨R (M w)+1,2,E⟩=G (I Y a)) (simp[go_sem])
  (first
   |(go_at_call 207;refine(Rr _ _ lo b _ aE aE).mono ?_;rintro e w' ⟨rfl,rfl⟩)
   |(go_at_call 208;refine(WM _ _ hi a _ aE aE).mono ?_;rintro e w' ⟨rfl,rfl⟩))
 all_goals go_wp2
 all_goals go_returns
 all_goals exact⟨kq (a4K sW sW),ai⟩
