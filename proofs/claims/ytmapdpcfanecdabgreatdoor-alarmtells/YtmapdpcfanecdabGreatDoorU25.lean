import Derived.Test.YtmapdpcfanecdabGreatDoorU22
open Go.Ending renaming returned→Rt
open Go.IntKind renaming i64→Y
open Go.Obj renaming cells→Cc
open Go.Proofs.Tryz renaming prog→pG
open Go.Value renaming agg→Ag,bool→Bb,int→I,slice→U,tuple→Tu
open Nat renaming le_refl→lR
open Option renaming none→nO,some→sO
set_option linter.unusedSimpArgs false
set_option linter.unusedVariables false
set_option maxHeartbeats 4000000
set_option maxRecDepth 20000
namespace Go.Proofs.YtmapdpcfanecdabGreatDoor
section
open Go.RowKit
theorem Ao (V F:Int)(s:oA)(len cap N:Nat)(tto a b n g:Int)(w:World)(hV:1<=V)(hV':V<=8)(hF:0<=F)(hF':F<=3)(hL:len<=60)(hs:ShpAt N shps w):
  Calls pG 128 #[Ag #[I Y V,I Y F,U s len cap],.map (sO N),Ag #[I Y 8,I Y tto,I Y a,I Y b,I Y n,I Y g]] w λe w'=>e=Rt (I Y (bk V F len ⟨8,tto,a,b,n,g⟩))/\bl w w':=by
 have hb0:Below w.heap.size w ((w.alloc (Cc #[I Y V,I Y F,U s len cap] 24)).alloc (Cc #[I Y 8,I Y tto,I Y a,I Y b,I Y n,I Y g] 100)):=ai;have hl:(Instr.lookup 179 (.map (sO N)) (I Y 8) true).run pG _=.ok (Tu #[Ag #[.string (aQ 8),U (sO ⟨N+8,0,nO⟩) 3 3],Bb true]) _:=cS (hs.below hb0 (lR _)) 8 7 _ rfl;have hz:N+8 < w.heap.size:=(aq hs 7 0 aj aj (I Y 0) rfl).2;have p0:w.cell? ⟨N+8,0,nO⟩=sO (I Y 0):=(aq hs 7 0 aj aj (I Y 0) rfl).1;have p1:w.cell? ⟨N+8,1,nO⟩=sO (I Y 1):=(aq hs 7 1 aj aj (I Y 1) rfl).1;have p2:w.cell? ⟨N+8,2,nO⟩=sO (I Y 2):=(aq hs 7 2 aj aj (I Y 2) rfl).1;clear hb0 hs;exact dt

theorem AQ (V F:Int)(s:oA)(len cap N:Nat)(tto a b n g:Int)(w:World)(hV:1<=V)(hV':V<=8)(hF:0<=F)(hF':F<=3)(hL:len<=60)(hs:ShpAt N shps w):
  Calls pG 128 #[Ag #[I Y V,I Y F,U s len cap],.map (sO N),Ag #[I Y 9,I Y tto,I Y a,I Y b,I Y n,I Y g]] w λe w'=>e=Rt (I Y (bk V F len ⟨9,tto,a,b,n,g⟩))/\bl w w':=by
 have hb0:Below w.heap.size w ((w.alloc (Cc #[I Y V,I Y F,U s len cap] 24)).alloc (Cc #[I Y 9,I Y tto,I Y a,I Y b,I Y n,I Y g] 100)):=ai;have hl:(Instr.lookup 179 (.map (sO N)) (I Y 9) true).run pG _=.ok (Tu #[Ag #[.string (aQ 9),U (sO ⟨N+9,0,nO⟩) 3 3],Bb true]) _:=cS (hs.below hb0 (lR _)) 9 8 _ rfl;have hz:N+9 < w.heap.size:=(aq hs 8 0 aj aj (I Y 0) rfl).2;have p0:w.cell? ⟨N+9,0,nO⟩=sO (I Y 0):=(aq hs 8 0 aj aj (I Y 0) rfl).1;have p1:w.cell? ⟨N+9,1,nO⟩=sO (I Y 1):=(aq hs 8 1 aj aj (I Y 1) rfl).1;have p2:w.cell? ⟨N+9,2,nO⟩=sO (I Y 2):=(aq hs 8 2 aj aj (I Y 2) rfl).1;clear hb0 hs;exact dt

theorem ya (V F:Int)(s:oA)(len cap N:Nat)(tto a b n g:Int)(w:World)(hV:1<=V)(hV':V<=8)(hF:0<=F)(hF':F<=3)(hL:len<=60)(hs:ShpAt N shps w):
  Calls pG 128 #[Ag #[I Y V,I Y F,U s len cap],.map (sO N),Ag #[I Y 10,I Y tto,I Y a,I Y b,I Y n,I Y g]] w λe w'=>e=Rt (I Y (bk V F len ⟨10,tto,a,b,n,g⟩))/\bl w w':=by
 have hb0:Below w.heap.size w ((w.alloc (Cc #[I Y V,I Y F,U s len cap] 24)).alloc (Cc #[I Y 10,I Y tto,I Y a,I Y b,I Y n,I Y g] 100)):=ai;have hl:(Instr.lookup 179 (.map (sO N)) (I Y 10) true).run pG _=.ok (Tu #[Ag #[.string (aQ 10),U (sO ⟨N+10,0,nO⟩) 2 2],Bb true]) _:=cS (hs.below hb0 (lR _)) 10 9 _ rfl;have hz:N+10 < w.heap.size:=(aq hs 9 0 aj aj (I Y 0) rfl).2;have p0:w.cell? ⟨N+10,0,nO⟩=sO (I Y 0):=(aq hs 9 0 aj aj (I Y 0) rfl).1;have p1:w.cell? ⟨N+10,1,nO⟩=sO (I Y 1):=(aq hs 9 1 aj aj (I Y 1) rfl).1;clear hb0 hs;exact dt

theorem wZ (V F:Int)(s:oA)(len cap N:Nat)(tto a b n g:Int)(w:World)(hV:1<=V)(hV':V<=8)(hF:0<=F)(hF':F<=3)(hL:len<=60)(hs:ShpAt N shps w):
  Calls pG 128 #[Ag #[I Y V,I Y F,U s len cap],.map (sO N),Ag #[I Y 15,I Y tto,I Y a,I Y b,I Y n,I Y g]] w λe w'=>e=Rt (I Y (bk V F len ⟨15,tto,a,b,n,g⟩))/\bl w w':=by
 have hb0:Below w.heap.size w ((w.alloc (Cc #[I Y V,I Y F,U s len cap] 24)).alloc (Cc #[I Y 15,I Y tto,I Y a,I Y b,I Y n,I Y g] 100)):=ai;have hl:(Instr.lookup 179 (.map (sO N)) (I Y 15) true).run pG _=.ok (Tu #[Ag #[.string (aQ 15),U (sO ⟨N+15,0,nO⟩) 2 2],Bb true]) _:=cS (hs.below hb0 (lR _)) 15 14 _ rfl;have hz:N+15 < w.heap.size:=(aq hs 14 0 aj aj (I Y 1) rfl).2;have p0:w.cell? ⟨N+15,0,nO⟩=sO (I Y 1):=(aq hs 14 0 aj aj (I Y 1) rfl).1;have p1:w.cell? ⟨N+15,1,nO⟩=sO (I Y 3):=(aq hs 14 1 aj aj (I Y 3) rfl).1;clear hb0 hs;exact dt

theorem yo (V F:Int)(s:oA)(len cap N:Nat)(tto a b n g:Int)(w:World)(hV:1<=V)(hV':V<=8)(hF:0<=F)(hF':F<=3)(hL:len<=60)(hs:ShpAt N shps w):
  Calls pG 128 #[Ag #[I Y V,I Y F,U s len cap],.map (sO N),Ag #[I Y 18,I Y tto,I Y a,I Y b,I Y n,I Y g]] w λe w'=>e=Rt (I Y (bk V F len ⟨18,tto,a,b,n,g⟩))/\bl w w':=by
 have hb0:Below w.heap.size w ((w.alloc (Cc #[I Y V,I Y F,U s len cap] 24)).alloc (Cc #[I Y 18,I Y tto,I Y a,I Y b,I Y n,I Y g] 100)):=ai;have hl:(Instr.lookup 179 (.map (sO N)) (I Y 18) true).run pG _=.ok (Tu #[Ag #[.string (aQ 18),U (sO ⟨N+18,0,nO⟩) 1 1],Bb true]) _:=cS (hs.below hb0 (lR _)) 18 17 _ rfl;have hz:N+18 < w.heap.size:=(aq hs 17 0 aj aj (I Y 1) rfl).2;have p0:w.cell? ⟨N+18,0,nO⟩=sO (I Y 1):=(aq hs 17 0 aj aj (I Y 1) rfl).1;clear hb0 hs;exact dt
end
end Go.Proofs.YtmapdpcfanecdabGreatDoor
