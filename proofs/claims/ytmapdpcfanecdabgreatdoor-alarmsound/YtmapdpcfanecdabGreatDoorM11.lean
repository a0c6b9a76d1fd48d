import Derived.Test.YtmapdpcfanecdabGreatDoorM07
open Go.Ending renaming returned→Rt
open Go.IntKind renaming i64→Y
open Go.Obj renaming cells→Cc
open Go.Proofs.Tryz renaming prog→pG
open Go.Value renaming agg→Ag,bool→Bb,int→I,slice→U,tuple→Tu
open Nat renaming le_refl→lR
open Option renaming none→nO,some→sO
set_option linter.unusedSimpArgs false
set_option linter.unusedVariables false
set_option maxHeartbeats 4000000
set_option maxRecDepth 20000
namespace Go.Proofs.YtmapdpcfanecdabGreatDoor
section
open Go.RowKit
theorem uN (V F:Int)(s:Option Addr)(len cap N:Nat)(tto a b n g:Int)(w:World)(hV:1≤V)(hV':V≤8)(hF:0≤F)(hF':F≤3)(hL:len≤60)(hs:ShpAt N shps w):
  Calls pG 128 #[Ag #[I Y V,I Y F,U s len cap],.map (sO N),Ag #[I Y 12,I Y tto,I Y a,I Y b,I Y n,I Y g]] w λe w'=>e=Rt (I Y (bD V F len ⟨12,tto,a,b,n,g⟩))∧Below w.heap.size w w':=by
 have hb0:Below w.heap.size w ((w.alloc (Cc #[I Y V,I Y F,U s len cap] 24)).alloc (Cc #[I Y 12,I Y tto,I Y a,I Y b,I Y n,I Y g] 100)):=by go_grown
 have hl:(Instr.lookup 179 (.map (sO N)) (I Y 12) true).run pG _=.ok (Tu #[Ag #[.string (bi 12),U (sO ⟨N+12,0,nO⟩) 3 3],Bb true]) _:=cR (hs.below hb0 (lR _)) 12 11 _ rfl
 have hz:N+12 < w.heap.size:=(aj hs 11 0 (by decide) (by decide) (I Y 0) rfl).2
 have p0:w.cell? ⟨N+12,0,nO⟩=sO (I Y 0):=(aj hs 11 0 (by decide) (by decide) (I Y 0) rfl).1
 have p1:w.cell? ⟨N+12,1,nO⟩=sO (I Y 1):=(aj hs 11 1 (by decide) (by decide) (I Y 1) rfl).1
 have p2:w.cell? ⟨N+12,2,nO⟩=sO (I Y 7):=(aj hs 11 2 (by decide) (by decide) (I Y 7) rfl).1
 clear hb0 hs
 exact dA

theorem vr (V F:Int)(s:Option Addr)(len cap N:Nat)(tto a b n g:Int)(w:World)(hV:1≤V)(hV':V≤8)(hF:0≤F)(hF':F≤3)(hL:len≤60)(hs:ShpAt N shps w):
  Calls pG 128 #[Ag #[I Y V,I Y F,U s len cap],.map (sO N),Ag #[I Y 13,I Y tto,I Y a,I Y b,I Y n,I Y g]] w λe w'=>e=Rt (I Y (bD V F len ⟨13,tto,a,b,n,g⟩))∧Below w.heap.size w w':=by
 have hb0:Below w.heap.size w ((w.alloc (Cc #[I Y V,I Y F,U s len cap] 24)).alloc (Cc #[I Y 13,I Y tto,I Y a,I Y b,I Y n,I Y g] 100)):=by go_grown
 have hl:(Instr.lookup 179 (.map (sO N)) (I Y 13) true).run pG _=.ok (Tu #[Ag #[.string (bi 13),U (sO ⟨N+13,0,nO⟩) 3 3],Bb true]) _:=cR (hs.below hb0 (lR _)) 13 12 _ rfl
 have hz:N+13 < w.heap.size:=(aj hs 12 0 (by decide) (by decide) (I Y 1) rfl).2
 have p0:w.cell? ⟨N+13,0,nO⟩=sO (I Y 1):=(aj hs 12 0 (by decide) (by decide) (I Y 1) rfl).1
 have p1:w.cell? ⟨N+13,1,nO⟩=sO (I Y 7):=(aj hs 12 1 (by decide) (by decide) (I Y 7) rfl).1
 have p2:w.cell? ⟨N+13,2,nO⟩=sO (I Y 2):=(aj hs 12 2 (by decide) (by decide) (I Y 2) rfl).1
 clear hb0 hs
 exact dA

theorem uY (V F:Int)(s:Option Addr)(len cap N:Nat)(tto a b n g:Int)(w:World)(hV:1≤V)(hV':V≤8)(hF:0≤F)(hF':F≤3)(hL:len≤60)(hs:ShpAt N shps w):
  Calls pG 128 #[Ag #[I Y V,I Y F,U s len cap],.map (sO N),Ag #[I Y 14,I Y tto,I Y a,I Y b,I Y n,I Y g]] w λe w'=>e=Rt (I Y (bD V F len ⟨14,tto,a,b,n,g⟩))∧Below w.heap.size w w':=by
 have hb0:Below w.heap.size w ((w.alloc (Cc #[I Y V,I Y F,U s len cap] 24)).alloc (Cc #[I Y 14,I Y tto,I Y a,I Y b,I Y n,I Y g] 100)):=by go_grown
 have hl:(Instr.lookup 179 (.map (sO N)) (I Y 14) true).run pG _=.ok (Tu #[Ag #[.string (bi 14),U (sO ⟨N+14,0,nO⟩) 2 2],Bb true]) _:=cR (hs.below hb0 (lR _)) 14 13 _ rfl
 have hz:N+14 < w.heap.size:=(aj hs 13 0 (by decide) (by decide) (I Y 0) rfl).2
 have p0:w.cell? ⟨N+14,0,nO⟩=sO (I Y 0):=(aj hs 13 0 (by decide) (by decide) (I Y 0) rfl).1
 have p1:w.cell? ⟨N+14,1,nO⟩=sO (I Y 6):=(aj hs 13 1 (by decide) (by decide) (I Y 6) rfl).1
 clear hb0 hs
 exact dA
end
end Go.Proofs.YtmapdpcfanecdabGreatDoor
